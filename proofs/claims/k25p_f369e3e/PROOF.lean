import PyProof.Rows.All
import Wide.All
import OpenK.AllK
import Wide.FinOn
import Lean
import KE.KNestM
import PyProof.EqAt
import PyProof.EqKinds
import PyProof.TupleCall
import PyProof.EnumMake
import PyProof.Draws
import KE.KDictList
import KE.KTryMore
import KE.KEqDict
import PyProof.ExcInit
import PyProof.InstStoreFacts
import KE.KSortTup
import PySem.Challenge.RW_fallcounts_k25_whole_numbers_of_orders
set_option Elab.async false
set_option linter.all false
set_option maxRecDepth 100000
set_option maxHeartbeats 8000000
namespace L2.FE
open PySem PySem.W PySem.Calls
noncomputable def AX : List Obj -> BT -> Nat -> Option BT
  | [], t, _ => some t
  | o :: r, t, n => match ((t.ins n o).get n).isSome with
    | true => AX r (t.ins n o) (n + 1)
    | false => none
theorem tu {life : Life} : ∀ {r : List Obj} {t T : BT} {n : Nat} {a : Array Obj}, AX r t n = some T -> absHeap t n life = ⟨a, life⟩ -> absHeap T (n + r.length) life = ⟨a ++ r.toArray, life⟩
  | [], t, T, n, a, h, e => by cases h; simpa using e
  | o :: r, t, T, n, a, h, e => by
    unfold AX at h
    cases g : ((t.ins n o).get n).isSome with
    | false => rw [g] at h; cases h
    | true =>
      rw [g] at h
      have x : absHeap (t.ins n o) (n + 1) life = ⟨a.push o, life⟩ := by rw [absHeap_ins g, e]; rfl
      have := tu h x
      rw [List.length_cons, show n + (r.length + 1) = n + 1 + r.length by omega, this]
      simp
noncomputable def vz (p : Program) (w : World) (n₀ : Nat) (ann : Option Value) : Nat -> SharedT -> Thread -> Option SharedT
  | 0, _, _ => none
  | n + 1, s, t => match through t with
    | true => some s
    | false => match PySem.W.Fast.tw6613529449190102663 n₀ ann t with
      | false => none
      | true => match PySem.W.Fast.tw10156331382660048174 (PySem.W.Fast.tw11892475500146522536 PySem.W.Fast.tw14364793385576792824) p w s t with
        | some (s', t') => vz p w n₀ ann n s' t'
        | none => none
theorem sX {p : Program} {w : World} {n₀ : Nat} {ann : Option Value} : ∀ {n : Nat} {s r : SharedT} {t : Thread}, vz p w n₀ ann n s t = some r -> topRun treeTable p w n₀ ann n s.abs t = some r.abs
  | 0, _, _, _, h => by cases h
  | n + 1, s, r, t, h => by
    unfold vz at h
    unfold topRun
    cases ht : through t with
    | true => rw [ht] at h; cases h; rfl
    | false =>
      rw [ht, <- PySem.W.Fast.te6613529449190102663] at h
      cases hk : stepOk n₀ ann t with
      | false => simp only [hk] at h; cases h
      | true =>
        simp only [hk] at h
        rw [<- PySem.W.Fast.te10156331382660048174, <- PySem.W.Fast.te11892475500146522536, <- PySem.W.Fast.te14364793385576792824] at h
        cases hs : stepT (denote treeTable) p w s t with
        | none => rw [hs] at h; cases h
        | some x => obtain ⟨s₂, t₂⟩ := x; rw [hs] at h; rw [stepT_spec hs]; exact sX h
noncomputable def qb (p : Program) (w : World) (N : Nat) (os : OsState) : Option SharedT :=
  match (boot_heap w.params).isNs mainGlobals with
  | true => (AX (boot_heap w.params).objs.toList .nil 0).bind fun T => vz p w (boot_heap w.params).objs.size ((boot_heap w.params).nsMap mainGlobals (Str.ofString "__annotations__")) N ⟨T, (boot_heap w.params).objs.size, (boot_heap w.params).life, #[], boot_drawn, boot_toks, os⟩ (topStub p)
  | false => none
noncomputable def xw (p : Program) (w : World) (s₁ : Shared) : Bool := staticsOk (PySem.W.Fast.tw5923862056798008813 p.main.body) (boot_heap w.params) s₁.heap && namesBound p s₁.heap && gensDone s₁ && laidKept (boot_heap w.params) s₁.heap
theorem wR {p q : Program} {loose : List Str} {Xt : Shared -> Bool} {α : Type} {Yf : Shared -> α} {Ya : World -> α} {N : Nat} (hN : Nat.ble 600 N = true) (e : opening p = plainProg p.main.scope.names) (f : ∀ s, fenceModules? p s = some s)
    (h1 : ∀ (w : World) (os : OsState), (qb p w N os).map (fun s => xw p w s.abs) = some true)
    (h2 : ∀ (w : World) (os : OsState), (qb p w N os).map (fun s => PySem.W.Fast.tw4187177175401517315 q loose (PySem.W.Fast.tw5923862056798008813 p.main.body) Xt true s.abs) = some (openGood q loose))
    (h3 : ∀ (w : World) (os : OsState), (qb p w N os).map (fun s => Yf s.abs) = some (Ya w)) : LeftO p q loose Xt Yf Ya N := fun w => by
  obtain ⟨s, hs, e'⟩ := Option.map_eq_some_iff.mp (boot_open e hN f w)
  obtain ⟨H, gs, d, k, os⟩ := s
  obtain ⟨rfl, rfl, rfl, rfl⟩ : H = boot_heap w.params /\ gs = _ /\ d = boot_drawn /\ k = boot_toks := by simpa using e'
  obtain ⟨r, hr, l1⟩ := Option.map_eq_some_iff.mp (h1 w os)
  obtain ⟨r2, hr2, l2⟩ := Option.map_eq_some_iff.mp (h2 w os)
  obtain ⟨r3, hr3, l3⟩ := Option.map_eq_some_iff.mp (h3 w os)
  obtain rfl : r = r2 := Option.some.inj (hr.symm.trans hr2)
  obtain rfl : r = r3 := Option.some.inj (hr.symm.trans hr3)
  unfold xw at l1
  rw [<- PySem.W.Fast.te5923862056798008813] at l1
  rw [<- PySem.W.Fast.te4187177175401517315, <- PySem.W.Fast.te5923862056798008813] at l2
  unfold qb at hr
  cases hn : (boot_heap w.params).isNs mainGlobals with
  | false => rw [hn] at hr; cases hr
  | true =>
    rw [hn] at hr
    obtain ⟨T, hT, hr⟩ := Option.bind_eq_some_iff.mp hr
    have z := tu (life := (boot_heap w.params).life) (n := 0) (a := #[]) hT rfl
    have z' : absHeap T (boot_heap w.params).objs.size (boot_heap w.params).life = boot_heap w.params := by
      rw [Nat.zero_add, Array.length_toList] at z
      rw [z]
      simp
    have hr := sX hr
    have st : (SharedT.mk T (boot_heap w.params).objs.size (boot_heap w.params).life #[] boot_drawn boot_toks os).abs = ⟨boot_heap w.params, #[], boot_drawn, boot_toks, os⟩ := by
      show Shared.mk _ _ _ _ _ = _
      rw [z']
    rw [st] at hr
    unfold openEnds
    rw [hs]
    show Option.map _ (topFrom treeTable p w N _) = _
    have t : topFrom treeTable p w N ⟨boot_heap w.params, #[], boot_drawn, boot_toks, os⟩ = some r.abs := by
      unfold topFrom
      dsimp only
      rw [hn]
      rw [hr]
      show (match staticsOk (importedModules p.main.body) (boot_heap w.params) r.abs.heap && namesBound p r.abs.heap && gensDone r.abs && laidKept (boot_heap w.params) r.abs.heap with | true => _ | false => _) = _
      rw [l1]
    rw [t]
    show some (openSeen q loose (importedModules p.main.body) Xt true r.abs, Yf r.abs) = _
    rw [l2, l3]
noncomputable def viewOf (p : Program) (keep : List Nat) : Program := { p with main := { p.main with body := keep.filterMap fun i => p.main.body[i]? } }
end L2.FE
section
open PySem PySem.W PyProof.Rows
noncomputable def FC.Q : Program := L2.FE.viewOf PySem.Challenge.pw_fallcounts_k25_whole_numbers_of_orders [1,2,3,4,5,7,8,9,11,12,13,14,15,16,17,19,20,21,22,23,24,25,26,27,28,29,30,31,32,33,34,35,36,38,39,40,41,42,43]
theorem FC.Dl : ∀ (w : World) (os : OsState), (L2.FE.qb PySem.Challenge.pw_fallcounts_k25_whole_numbers_of_orders w 4292 os).map (fun s => L2.FE.xw PySem.Challenge.pw_fallcounts_k25_whole_numbers_of_orders w s.abs) = some true := fun w os => by kernel_rfl
theorem FC.Em : ∀ (w : World) (os : OsState), (L2.FE.qb PySem.Challenge.pw_fallcounts_k25_whole_numbers_of_orders w 4292 os).map (fun s => PySem.W.Fast.tw4187177175401517315 FC.Q [] (PySem.W.Fast.tw5923862056798008813 PySem.Challenge.pw_fallcounts_k25_whole_numbers_of_orders.main.body) (fun s => xlAt FC.Q [] s && recOk (RowW.records (OpenRow.toRowW (OpenLaw.row PySem.Challenge.rw_fallcounts_k25_whole_numbers_of_orders))) s) true s.abs) = some (openGood FC.Q []) := fun w os => by kernel_rfl
end
namespace L2
open PySem PySem.Spec PyProof.Rows
noncomputable abbrev Key := Sum Int Str
noncomputable def BE : Key -> Value -> Bool
  | .inl k, v => Value.isInt k v
  | .inr x, v => Value.isStrOf x v
noncomputable def FA (w : World) : Key -> Int
  | .inl k => hashInt k
  | .inr x => hashStr w x
theorem cE : ∀ {k : Key} {v : Value}, BE k v = true -> (∃ i t, k = Sum.inl i /\ v = Value.int i t) \/ (∃ x t, k = Sum.inr x /\ v = Value.str x t)
  | .inl i, v, h => by
    obtain ⟨t, e⟩ := Value.isInt_shape (k := i) (v := v) h
    exact .inl ⟨i, t, rfl, e⟩
  | .inr x, v, h => by
    obtain ⟨t, e⟩ := Value.isStrOf_shape (x := x) (v := v) h
    exact .inr ⟨x, t, rfl, e⟩
theorem CG (a b : Int) : decide ((Sum.inl a : Key) = Sum.inl b) = (a == b) := by
  by_cases e : a = b
  · subst e; simp
  · have h : ¬ (Sum.inl a : Key) = Sum.inl b := fun q => e (Sum.inl.inj q)
    rw [decide_eq_false h]
    exact (beq_eq_false_iff_ne.mpr e).symm
theorem CA (a b : Str) : decide ((Sum.inr a : Key) = Sum.inr b) = decide (a = b) := by
  by_cases e : a = b
  · subst e; simp
  · have h : ¬ (Sum.inr a : Key) = Sum.inr b := fun q => e (Sum.inr.inj q)
    rw [decide_eq_false h, decide_eq_false e]
theorem C5 (a : Int) (b : Str) : decide ((Sum.inl a : Key) = Sum.inr b) = false := decide_eq_false (fun q => nomatch q)
theorem Cs (a : Str) (b : Int) : decide ((Sum.inr a : Key) = Sum.inl b) = false := decide_eq_false (fun q => nomatch q)
noncomputable def qz (prog : Program) (w : World) : PySem.KeyKind prog w Key where
  is := BE
  hash := FA w
  inj := fun v a b ha hb => by
    rcases cE ha with ⟨i, t, rfl, rfl⟩ | ⟨x, t, rfl, rfl⟩
    · rcases cE hb with ⟨j, u, rfl, e⟩ | ⟨y, u, rfl, e⟩
      · injection e with e1 _; rw [e1]
      · exact nomatch e
    · rcases cE hb with ⟨j, u, rfl, e⟩ | ⟨y, u, rfl, e⟩
      · exact nomatch e
      · injection e with e1 _; rw [e1]
  byValue := fun k v h => by
    rcases cE h with ⟨i, t, rfl, rfl⟩ | ⟨x, t, rfl, rfl⟩ <;> rfl
  pyHash := fun hv h => by
    rcases cE hv with ⟨i, t, rfl, rfl⟩ | ⟨x, t, rfl, rfl⟩
    · exact wpAny_pyHash_int h
    · exact wpAny_pyHash_str h
  eqBool := fun hu hv h => by
    rcases cE hu with ⟨i, t, rfl, rfl⟩ | ⟨x, t, rfl, rfl⟩
    · rcases cE hv with ⟨j, u, rfl, rfl⟩ | ⟨y, u, rfl, rfl⟩
      · rw [CG] at h; exact wpAny_eqBool_int h
      · rw [C5] at h; exact SeqAt.EqAt.int_str i t y u _ _ _ _ h
    · rcases cE hv with ⟨j, u, rfl, rfl⟩ | ⟨y, u, rfl, rfl⟩
      · rw [Cs] at h; exact SeqAt.EqAt.str_int x t j u _ _ _ _ h
      · rw [CA] at h; exact wpAny_eqBool_str h
  «strs» := fun k x t v h => by
    rcases cE h with ⟨i, u, rfl, e⟩ | ⟨y, u, rfl, e⟩
    · exact nomatch e
    · injection e with e1 _
      subst e1
      cases v <;> rfl
inductive V where
  | non | bl (b : Bool) | int (i : Int) | str (x : Str) | byt (b : Array UInt8) | flt (b : UInt64) | ref (a : Addr) | ty (n : String)
  deriving DecidableEq
noncomputable def RelV : V -> Value -> Prop
  | .non, u => u = Value.none
  | .bl b, u => u = Value.bool b
  | .int i, u => ∃ t, u = Value.int i t
  | .str x, u => ∃ t, u = Value.str x t
  | .byt b, u => ∃ t, u = Value.bytes b t
  | .flt b, u => ∃ t, u = Value.float b t
  | .ref a, u => u = Value.ref a
  | .ty n, u => u = Value.type n
noncomputable abbrev Vals : List V -> List Value -> Prop := Paired RelV
theorem Vals.length {xs : List V} {us : List Value} (r : Vals xs us) : xs.length = us.length := Paired.length r
theorem Vals.get : ∀ {xs : List V} {us : List Value} {i : Nat} {x : V}, Vals xs us -> xs[i]? = some x -> ∃ u, us[i]? = some u /\ RelV x u
  | _, _, _, _, .nil, e => by simp at e
  | _, _, 0, _, .cons r _, e => by simp at e; subst e; exact ⟨_, rfl, r⟩
  | _, _, i + 1, x, .cons _ t, e => by
    obtain ⟨u, h1, h2⟩ := Vals.get (i := i) (x := x) t (by simpa using e)
    exact ⟨u, by simpa using h1, h2⟩
theorem Vals.set {x : V} {u : Value} (r : RelV x u) : ∀ {xs : List V} {us : List Value} (i : Nat), Vals xs us -> Vals (xs.set i x) (us.set i u)
  | _, _, _, .nil => .nil
  | _, _, 0, .cons _ t => .cons r t
  | _, _, i + 1, .cons q t => .cons q (Vals.set r i t)
theorem Vals.append : ∀ {xs ys : List V} {us ws : List Value}, Vals xs us -> Vals ys ws -> Vals (xs ++ ys) (us ++ ws)
  | _, _, _, _, .nil, s => s
  | _, _, _, _, .cons r t, s => .cons r (Vals.append t s)
theorem Vals.take : ∀ {xs : List V} {us : List Value} (n : Nat), Vals xs us -> Vals (xs.take n) (us.take n)
  | _, _, 0, _ => .nil
  | _, _, _ + 1, .nil => .nil
  | _, _, n + 1, .cons r t => .cons r (Vals.take n t)
theorem Vals.drop : ∀ {xs : List V} {us : List Value} (n : Nat), Vals xs us -> Vals (xs.drop n) (us.drop n)
  | _, _, 0, r => r
  | _, _, _ + 1, .nil => .nil
  | _, _, n + 1, .cons _ t => Vals.drop n t
noncomputable def Cb : Option V -> Option Value -> Prop
  | some v, some u => RelV v u
  | none, none => True
  | _, _ => False
noncomputable def KV {κ : Type} : List (κ × V) -> List (κ × Value) -> Prop := Paired fun (p : κ × V) (q : κ × Value) => p.1 = q.1 /\ RelV p.2 q.2
noncomputable def kV : Key -> V
  | .inl i => .int i
  | .inr x => .str x
inductive HO where
  | lst (xs : List V)
  | tup (xs : List V)
  | dK (kvs : List (Key × V)) | dT (kvs : List (List Key × V))
  | set (S : Int -> Bool) (n : Nat)
  | ins (C dx : Addr) (fs : List (Str × V))
  | own (x : Addr)
  | xd (fs : List (Str × V))
  | met (f x : Addr)
  | rng (lo hi : Int)
  | frz (o : Obj) (u : HO)
  | tbl (ps : Array Value)
  | ext (φ : Heap -> Prop)
noncomputable abbrev Hp := Addr -> Option HO
noncomputable def upd (H : Hp) (a : Addr) (o : HO) : Hp := fun b => if b = a then some o else H b
theorem bj {H : Hp} {a : Addr} {o : HO} : upd H a o a = some o := by unfold upd; rw [if_pos rfl]
theorem aJ {H : Hp} {a b : Addr} {o : HO} (h : b ≠ a) : upd H a o b = H b := by unfold upd; rw [if_neg h]
theorem bw {H : Hp} {a b : Addr} {o : HO} (h : H a = some o) (h' : H b = none) : a ≠ b := by
  intro e; subst e; rw [h] at h'; cases h'
noncomputable def lF (h : Heap) (a : Addr) (its : Array Value) : Prop := ∃ o, h.get? a = some o /\ (o.cls = .type "tuple" /\ ∃ n, o.data = .seq its n) /\ o.dict = none
theorem lF.tup {h : Heap} {a : Addr} {its : Array Value} (x : lF h a its) : IsTup h a its := let ⟨o, e, ⟨c, n, d⟩, _⟩ := x; ⟨o, e, c, n, d⟩
theorem lF.new (h : Heap) (its : Array Value) : lF (h.push { cls := .type "tuple", data := .seq its }) h.objs.size its := ⟨_, Heap.get?_push_size _ rfl, ⟨rfl, _, rfl⟩, rfl⟩
section
variable (P : Program) (w : World)
noncomputable def cP (H : Hp) (h : Heap) (a : Addr) : HO -> Prop
  | .lst xs => xs.length <= sizeLine /\ ∃ (its : List Value) (n : Nat), Vals xs its /\ h.get? a = some { cls := .type "list", data := .seq its.toArray n }
  | .tup xs => xs.length <= sizeLine /\ ∃ its : List Value, Vals xs its /\ lF h a its.toArray
  | .dK kvs => kvs.length <= sizeLine /\ (a == sysModules) = false /\ ∃ vs, KV kvs vs /\ h.DictOf (qz P w) a vs
  | .dT kvs => kvs.length <= sizeLine /\ (a == sysModules) = false /\ ∃ xs : List (List Key × Addr × Value),
      Paired (fun (p : List Key × V) (q : List Key × Addr × Value) => p.1 = q.1 /\ H q.2.1 = some (.tup (p.1.map kV)) /\ RelV p.2 q.2.2) kvs xs ∧
      ∃ o es ep, h.get? a = some o /\ o.ExactDict /\ o.data = .dict es ep /\ es.toList = xs.map (entryOfKey (tupleKind (qz P w))) /\ (xs.map (·.1)).Nodup
  | .set S n => h.SetOf (intKind P w) a S n
  | .ins C dx fs => H dx = some (.own a) /\ fs.length <= 1000 /\ dx ≠ a /\ h.get? a = some (PySem.W.instObj C dx) ∧
      ∃ mA, h.Ns1 dx mA /\ (∀ f, Cb (fs.lookup f) (mA f)) /\ PySem.Within mA (fs.map (·.1))
  | .own _ => ∃ o, h.get? a = some o
  | .xd fs => ∃ mA, h.Ns1 a mA /\ ∀ f, Cb (fs.lookup f) (mA f)
  | .rng lo hi => ∃ t u v, h.get? a = some { cls := .type "range", data := .fields #[.int lo t, .int hi u, .int 1 v] }
  | .frz o u => h.get? a = some o /\ cP H h a u
  | .tbl ps => h.get? a = some { cls := .none, data := .fields ps }
  | .met f x => h.get? a = some (PySem.W.methodObj (.ref f) (.ref x))
  | .ext φ => φ h /\ (∃ o, h.get? a = some o) /\ ∀ h1 h2 : Heap, φ h1 -> (∀ o, h1.get? a = some o -> h2.get? a = some o) -> φ h2
noncomputable def HOk (H : Hp) (h : Heap) : Prop := ∀ a o, H a = some o -> cP P w H h a o
end
section
variable {P : Program} {w : World} {H H' : Hp} {h h' : Heap} {a : Addr} {o : HO}
theorem cP.lt (x : cP P w H h a o) : a < h.objs.size := by
  cases o with
  | lst xs => obtain ⟨_, _, _, _, e⟩ := x; exact Heap.lt_size e
  | tup xs => obtain ⟨_, _, _, _, e, _⟩ := x; exact Heap.lt_size e
  | dK kvs => obtain ⟨_, _, _, _, o, _, _, e, _⟩ := x; exact Heap.lt_size e
  | dT kvs => obtain ⟨_, _, _, _, o, _, _, e, _⟩ := x; exact Heap.lt_size e
  | set S n => obtain ⟨o, _, _, _, e, _⟩ := x; exact Heap.lt_size e
  | ins C dx fs => obtain ⟨_, _, _, e, _⟩ := x; exact Heap.lt_size e
  | own y => obtain ⟨_, e⟩ := x; exact Heap.lt_size e
  | xd fs => obtain ⟨_, ⟨_, _, _, e, _⟩, _⟩ := x; exact Heap.lt_size e
  | rng lo hi => obtain ⟨_, _, _, e⟩ := x; exact Heap.lt_size e
  | frz ob u => obtain ⟨e, _⟩ := x; exact Heap.lt_size e
  | tbl ps => exact Heap.lt_size (show h.get? a = some _ from x)
  | met f y => exact Heap.lt_size (show h.get? a = some _ from x)
  | ext φ => obtain ⟨_, ⟨_, e⟩, _⟩ := x; exact Heap.lt_size e
theorem Paired.sh {α β : Type} {F G : α -> β -> Prop} : ∀ {l₁ : List α} {l₂ : List β}, Paired F l₁ l₂ -> (∀ a b, F a b -> G a b) -> Paired G l₁ l₂
  | _, _, .nil, _ => .nil
  | _, _, .cons r t, f => .cons (f _ _ r) (Paired.sh t f)
theorem cP.lC (x : cP P w H h a o) (k : ∀ b u, (b = a \/ H b = some (.own a)) -> h.get? b = some u -> h'.get? b = some u)
    (ho : ∀ b, H b = some (.own a) -> H' b = some (.own a)) (ht : ∀ b xs, H b = some (.tup xs) -> H' b = some (.tup xs)) : cP P w H' h' a o := by
  induction o with
  | lst xs => obtain ⟨z, its, n, r, e⟩ := x; exact ⟨z, its, n, r, k _ _ (.inl rfl) e⟩
  | tup xs => obtain ⟨z, its, r, ob, e, c⟩ := x; exact ⟨z, its, r, ob, k _ _ (.inl rfl) e, c⟩
  | dK kvs => obtain ⟨z, y, vs, r, ob, es, ep, e, c⟩ := x; exact ⟨z, y, vs, r, ob, es, ep, k _ _ (.inl rfl) e, c⟩
  | dT kvs =>
    obtain ⟨z, y, xs, r, ob, es, ep, e, c⟩ := x
    exact ⟨z, y, xs, Paired.sh r fun p q z => ⟨z.1, ht _ _ z.2.1, z.2.2⟩, ob, es, ep, k _ _ (.inl rfl) e, c⟩
  | set S n => obtain ⟨ob, es, ep, t, e, c⟩ := x; exact ⟨ob, es, ep, t, k _ _ (.inl rfl) e, c⟩
  | ins C dx fs =>
    obtain ⟨d, z, ne, e, mA, ⟨od, es, ep, e2, c⟩, r⟩ := x
    exact ⟨ho _ d, z, ne, k _ _ (.inl rfl) e, mA, ⟨od, es, ep, k _ _ (.inr d) e2, c⟩, r⟩
  | own y => obtain ⟨ob, e⟩ := x; exact ⟨ob, k _ _ (.inl rfl) e⟩
  | xd fs => obtain ⟨mA, ⟨od, es, ep, e, c⟩, r⟩ := x; exact ⟨mA, ⟨od, es, ep, k _ _ (.inl rfl) e, c⟩, r⟩
  | rng lo hi => obtain ⟨t, u, v, e⟩ := x; exact ⟨t, u, v, k _ _ (.inl rfl) e⟩
  | frz ob u ih => obtain ⟨e, q⟩ := x; exact ⟨k _ _ (.inl rfl) e, ih q⟩
  | tbl ps =>
    have e : h.get? a = some { cls := .none, data := .fields ps } := x
    show h'.get? a = some { cls := .none, data := .fields ps }
    exact k a _ (.inl rfl) e
  | met f y =>
    have e : h.get? a = some (PySem.W.methodObj (.ref f) (.ref y)) := x
    show h'.get? a = some (PySem.W.methodObj (.ref f) (.ref y))
    exact k a _ (.inl rfl) e
  | ext φ => obtain ⟨p, ⟨o, e⟩, st⟩ := x; exact ⟨st _ _ p fun o q => k _ _ (.inl rfl) q, ⟨o, k _ _ (.inl rfl) e⟩, st⟩
theorem HOk.lt (x : HOk P w H h) (e : H a = some o) : a < h.objs.size := (x a o e).lt
theorem HOk.fresh (x : HOk P w H h) (e : h.objs.size <= a) : H a = none := by
  cases q : H a with
  | none => rfl
  | some u => exact absurd (Nat.lt_of_lt_of_le (x.lt q) e) (Nat.lt_irrefl _)
theorem HOk.kept (x : HOk P w H h) (k : ∀ b u, h.get? b = some u -> h'.get? b = some u) : HOk P w H h' := fun a o e =>
  (x a o e).lC (fun b u _ q => k b u q) (fun _ q => q) fun _ _ q => q
theorem HOk.laid (x : HOk P w H h) (k : ∀ b u, h.get? b = some u -> h'.get? b = some u) (hp : h.objs.size <= a) (new : cP P w (upd H a o) h' a o) : HOk P w (upd H a o) h' := fun b u e => by
  have hn := x.fresh hp
  by_cases hb : b = a
  · subst hb; rw [bj] at e; cases e; exact new
  · rw [aJ hb] at e
    exact (x b u e).lC (fun c v _ q => k c v q) (fun c q => by rw [aJ (bw q hn)]; exact q) fun c xs q => by rw [aJ (bw q hn)]; exact q
end
noncomputable def Rd (H : Hp) (a : Addr) (u : HO) : Prop := H a = some u \/ ∃ o, H a = some (.frz o u)
theorem Rd.ok {P : Program} {w : World} {H : Hp} {h : Heap} {a : Addr} {u : HO} (r : Rd H a u) (x : HOk P w H h) : cP P w H h a u := by
  rcases r with r | ⟨o, r⟩
  · exact x a u r
  · obtain ⟨_, q⟩ := x a _ r
    exact q
noncomputable def Mut : Option HO -> Prop
  | some (.lst _) => True
  | some (.dK _) => True
  | some (.dT _) => True
  | some (.set _ _) => True
  | some (.ins _ _ _) => True
  | some (.ext _) => True
  | _ => False
section
variable {P : Program} {w : World} {H : Hp} {h h' : Heap} {x e : Addr} {o' : HO}
theorem HOk.write (ok : HOk P w H h) (mu : Mut (H x)) (he : e = x \/ H e = some (.own x)) (k : ∀ b u, b ≠ e -> h.get? b = some u -> h'.get? b = some u) (heo : ∃ u, h'.get? e = some u)
    (new : cP P w (upd H x o') h' x o') : HOk P w (upd H x o') h' := fun b u q => by
  have nown : ∀ c y, H c = some (.own y) -> c ≠ x := fun c y r z => by subst z; rw [r] at mu; exact mu
  have ntup : ∀ c xs, H c = some (.tup xs) -> c ≠ x := fun c xs r z => by subst z; rw [r] at mu; exact mu
  by_cases hb : b = x
  · subst hb; rw [bj] at q; cases q; exact new
  · rw [aJ hb] at q
    by_cases hbe : b = e
    · have q' : H b = some (.own x) := by
        rcases he with z | z
        · exact absurd (hbe.trans z) hb
        · rw [hbe]; exact z
      rw [q] at q'; cases q'
      obtain ⟨v, hv⟩ := heo
      exact ⟨v, by rw [hbe]; exact hv⟩
    · refine (ok b u q).lC (fun c v hc r => k c v ?_ r) (fun c r => by rw [aJ (nown c b r)]; exact r) fun c xs r => by rw [aJ (ntup c xs r)]; exact r
      rcases hc with rfl | hc
      · exact hbe
      · rintro rfl
        rcases he with z | z
        · exact nown c b hc z
        · rw [hc] at z; cases z; exact hb rfl
end
structure Un (fs ex : List Addr) (H H' : Hp) (h h' : Heap) : Prop where
  keep : ∀ b o, h.get? b = some o -> H b = none -> b ∉ fs -> b ∉ ex -> h'.get? b = some o
  slot : ∀ b o, h.get? b = some o -> H b = none -> b ∈ fs -> b ∉ ex -> ∃ sl, h'.get? b = some { o with slots := sl }
  free : ∀ b o, h.get? b = some o -> H b = none -> b ∉ ex -> H' b = none
  there : ∀ b o, h.get? b = some o -> b ∉ ex -> ∃ o', h'.get? b = some o'
  my : ∀ b xs, H b = some (.tup xs) -> H' b = some (.tup xs)
  lO : ∀ b o u, H b = some (.frz o u) -> H' b = some (.frz o u)
  mM : ∀ b ps, H b = some (.tbl ps) -> ∃ more, H' b = some (.tbl (ps ++ more))
section
variable {fs fs' ex ex' : List Addr} {H H1 H2 : Hp} {h h1 h2 h' : Heap} {a x e : Addr} {o : HO}
theorem Un.any (u : Un fs ex H H1 h h1) {b : Addr} {ob : Obj} (q : h.get? b = some ob) (n : H b = none) (hx : b ∉ ex) : ∃ sl, h1.get? b = some { ob with slots := sl } := by
  by_cases hb : b ∈ fs
  · exact u.slot b ob q n hb hx
  · exact ⟨ob.slots, u.keep b ob q n hb hx⟩
theorem Un.kept (k : ∀ b u, h.get? b = some u -> h'.get? b = some u) : Un fs ex H H h h' :=
  ⟨fun b ob q _ _ _ => k b ob q, fun b ob q _ _ _ => ⟨ob.slots, k b ob q⟩, fun _ _ _ n _ => n, fun b ob q _ => ⟨ob, k b ob q⟩, fun _ _ q => q, fun _ _ _ q => q, fun _ ps q => ⟨#[], by rw [q]; simp⟩⟩
theorem Un.refl : Un fs ex H H h h := Un.kept fun _ _ q => q
theorem Un.laid (k : ∀ b u, h.get? b = some u -> h'.get? b = some u) (hp : h.objs.size <= a) (hn : H a = none) : Un fs ex H (upd H a o) h h' where
  keep := fun b u q _ _ _ => k b u q
  slot := fun b u q _ _ _ => ⟨u.slots, k b u q⟩
  free := fun b u q n _ => by rw [aJ (Nat.ne_of_lt (Nat.lt_of_lt_of_le (Heap.lt_size q) hp))]; exact n
  there := fun b u q _ => ⟨u, k b u q⟩
  my := fun b xs q => by rw [aJ (bw q hn)]; exact q
  lO := fun b u xs q => by rw [aJ (bw q hn)]; exact q
  mM := fun b ps q => ⟨#[], by rw [aJ (bw q hn), q]; simp⟩
theorem Un.write (mu : Mut (H x)) (he : e = x \/ H e = some (.own x)) (k : ∀ b u, b ≠ e -> h.get? b = some u -> h'.get? b = some u) (heo : ∃ u, h'.get? e = some u) : Un fs ex H (upd H x o) h h' := by
  have hx : ∀ b, H b = none -> b ≠ x := fun b n z => by subst z; rw [n] at mu; exact mu
  have hb : ∀ b, H b = none -> b ≠ e := fun b n z => by
    subst z
    rcases he with r | r
    · exact hx b n r
    · rw [n] at r; cases r
  have hm : ∀ b u, H b = some u -> ¬ Mut (some u) -> b ≠ x := fun b u q nm z => by subst z; rw [q] at mu; exact nm mu
  refine ⟨fun b u q n _ _ => k b u (hb b n) q, fun b u q n _ _ => ⟨u.slots, k b u (hb b n) q⟩, fun b u q n _ => by rw [aJ (hx b n)]; exact n, fun b u q _ => ?_,
    fun b xs q => by rw [aJ (hm b _ q fun z => z)]; exact q, fun b u xs q => by rw [aJ (hm b _ q fun z => z)]; exact q, fun b ps q => ⟨#[], by rw [aJ (hm b _ q fun z => z), q]; simp⟩⟩
  by_cases hbe : b = e
  · subst hbe; exact heo
  · exact ⟨u, k b u hbe q⟩
end
noncomputable def trk (h : Heap) (H : Hp) : List Addr := (List.range h.objs.size).filter fun a => (H a).isSome
noncomputable def pe (h : Heap) (H : Hp) : Heap := PySem.W.hideAll h (trk h H)
theorem w8 (h : Heap) (H : Hp) : (pe h H).objs.size = h.objs.size := PySem.W.hideAll_size _ _
theorem yI {h : Heap} {H : Hp} {b : Addr} {o : Obj} (e : h.get? b = some o) (n : H b = none) : (pe h H).get? b = some o :=
  PySem.W.hideAll_get _ e fun hm => by
    have q : (H b).isSome = true := (List.mem_filter.mp hm).2
    rw [n] at q; simp at q
theorem Ai {h : Heap} {H : Hp} {b : Addr} {o : Obj} (e : (pe h H).get? b = some o) : h.get? b = some o /\ H b = none := by
  have e' : h.get? b = some o := PySem.W.of_hideAll (trk h H) e
  refine ⟨e', ?_⟩
  cases q : H b with
  | none => rfl
  | some x =>
    have hm : b ∈ trk h H := List.mem_filter.mpr ⟨List.mem_range.mpr (Heap.lt_size e'), by simp [q]⟩
    have z : (pe h H).get? b = none := PySem.W.hideAll_none (trk h H) hm
    rw [z] at e; cases e
structure Mod (K : PySem.W.Frag) (mg : Str -> Option Value) (base : Heap) : Prop where
  kin : K.In base
  glob : base.Ns mainGlobals mg
  blt : ∃ mb, base.Ns builtinsNs mb /\ ∀ x : Str, x ≠ "__name__" -> mb x = bootBuiltins x
  nolimit : base.NoLimit
structure Cx where
  prog : Program
  w : World
  K : PySem.W.Frag
  mg : Str -> Option Value
  base : Heap
  A : Around
  N : List Str
  aM : Shared
  aU : Hp
  env : Env
  outer : List Env
  stack : List Env
  ex : List Addr
  fn : Str -> Bool
  calm : Bool
  pn : List (Addr × Obj)
  xe : Value -> Shared -> Prop
noncomputable def frs (l : List Env) : List Addr := l.filterMap (·.frame)
noncomputable abbrev Cx.fs (X : Cx) : List Addr := frs X.outer
noncomputable def Vis (sc : Scope) (x : Str) : Prop := sc.names.lookup x = some .local \/ sc.names.lookup x = some .cell \/ sc.names.lookup x = some .free
noncomputable def Loc (sc : Scope) (x : Str) : Prop := sc.names.lookup x = some .local \/ sc.names.lookup x = some .cell
noncomputable def Look (env : Env) (h : Heap) (m : Str -> Option Value) (x : Str) (u : Value) : Prop :=
  (env.kindOf x = some .local /\ m x = some u) \/ ((env.kindOf x = some .cell \/ env.kindOf x = some .free) /\ ∃ c, env.cells.lookup x = some c /\ h.IsCell c (some u))
structure Cx.Ok (X : Cx) : Prop where
  mod : Mod X.K X.mg X.base
  kind : X.env.scope.kind = .function
  glob : X.env.globals = mainGlobals
  blt : X.env.builtins = builtinsNs
  above : X.aM.heap.objs.size <= X.env.locals
  inj : ∀ x y c, X.env.cells.lookup x = some c -> X.env.cells.lookup y = some c -> x = y
  has : ∀ x, (X.env.kindOf x = some .cell \/ X.env.kindOf x = some .free) -> ∃ c, X.env.cells.lookup x = some c
  cab : ∀ x c, X.fn x = true -> X.env.cells.lookup x = some c -> X.aM.heap.objs.size <= c
  hd : X.calm = true -> X.A.handled = none
  frames : X.A.frames = some X.stack
  stk : X.stack = X.outer \/ (X.stack = X.env :: X.outer /\ X.env.frame = some X.env.locals)
  exf : ∀ b ∈ X.ex, b ≠ X.env.locals /\ ∀ x c, X.env.cells.lookup x = some c -> c ≠ b
  bs : ∀ b o, X.base.get? b = some o -> X.aM.heap.get? b = some o /\ X.aU b = none
  bsz : X.base.objs.size <= X.aM.heap.objs.size
  yt : ∀ b o, X.base.get? b = some o -> b ∉ X.ex
  A1 : ∀ b ∈ X.ex, b ∉ X.fs
  mq : X.aM.heap.FunFrames X.base X.outer
  frf : ∀ b ∈ X.fs, X.aU b = none
structure Inv (X : Cx) (pins : List (Addr × Obj)) (σ : List (Option V)) (H : Hp) (s : Shared) : Prop where
  ok : X.Ok
  os : s.os = X.aM.os
  bare : AllBare s.gens
  base : Un X.fs X.ex X.aU H X.aM.heap s.heap
  loc : ∃ m, s.heap.Ns X.env.locals m /\ ∀ (i : Nat) (x : Str) (v : V), X.N[i]? = some x -> σ[i]? = some (some v) -> Vis X.env.scope x -> ∃ u, RelV v u /\ Look X.env s.heap m x u
  cell : ∀ x c, X.env.cells.lookup x = some c -> ∃ v, s.heap.IsCell c v
  free : H X.env.locals = none
  iP : ∀ x c, X.env.cells.lookup x = some c -> H c = none
  pin : ∀ p ∈ X.pn ++ pins, s.heap.get? p.1 = some p.2 /\ H p.1 = none /\ p.1 ≠ X.env.locals /\ p.1 ∉ X.fs /\ ∀ v, p.2.data ≠ .cell v
  hok : HOk X.prog X.w H s.heap
  len : σ.length = X.N.length
section
variable {X : Cx} {pins : List (Addr × Obj)} {σ : List (Option V)} {H H' : Hp} {s : Shared} {h' : Heap}
theorem Cx.Ok.FY (ok : X.Ok) {b : Addr} {o : Obj} (e : X.base.get? b = some o) : b ∉ X.fs := fun hb => by
  have := (ok.mq.mem hb).1
  rw [e] at this; cases this
theorem Inv.bs (I : Inv X pins σ H s) : ∀ b o, X.base.get? b = some o -> s.heap.get? b = some o /\ H b = none := fun b o e =>
  ⟨I.base.keep b o (I.ok.bs b o e).1 (I.ok.bs b o e).2 (I.ok.FY e) (I.ok.yt b o e), I.base.free b o (I.ok.bs b o e).1 (I.ok.bs b o e).2 (I.ok.yt b o e)⟩
theorem Inv.bk (I : Inv X pins σ H s) : ∀ b o, X.base.get? b = some o -> s.heap.get? b = some o := fun b o e => (I.bs b o e).1
theorem Inv.mod (I : Inv X pins σ H s) : Mod X.K X.mg X.base := I.ok.mod
theorem Inv.kIn (I : Inv X pins σ H s) : X.K.In s.heap := I.ok.mod.kin.keeps I.bk
theorem Inv.lt (I : Inv X pins σ H s) : X.env.locals < s.heap.objs.size := let ⟨_, hn, _⟩ := I.loc; hn.lt
theorem Inv.sz (I : Inv X pins σ H s) : X.aM.heap.objs.size <= s.heap.objs.size := Nat.le_trans I.ok.above (Nat.le_of_lt I.lt)
theorem Inv.DN (I : Inv X pins σ H s) {a : Addr} (h : s.heap.objs.size <= a) : a ∉ X.fs := fun hb => by
  obtain ⟨_, o, ho, _⟩ := I.ok.mq.mem hb
  exact absurd (Nat.lt_of_lt_of_le (Heap.lt_size ho) (Nat.le_trans I.sz h)) (Nat.lt_irrefl _)
theorem Inv.cne (I : Inv X pins σ H s) : ∀ x c, X.env.cells.lookup x = some c -> c ≠ X.env.locals := fun x c e z => by
  obtain ⟨v, o, ho, hd⟩ := I.cell x c e
  obtain ⟨m, ⟨o', es, ep, ho', hd', _⟩, _⟩ := I.loc
  rw [z, ho'] at ho; cases ho; rw [hd'] at hd; cases hd
theorem Inv.mq (I : Inv X pins σ H s) : s.heap.FunFrames X.base X.outer := by
  have all : ∀ (l : List Env), (∀ b ∈ frs l, b ∈ X.fs) -> X.aM.heap.FunFrames X.base l -> s.heap.FunFrames X.base l := by
    intro l
    induction l with
    | nil => intro _ _; trivial
    | cons env r ih =>
      intro hs hl
      obtain ⟨hk, ⟨L, o, hf, hn, ho, hd⟩, hr⟩ := hl
      have hL : L ∈ X.fs := hs L (by unfold frs; rw [List.filterMap_cons, hf]; exact List.mem_cons_self)
      obtain ⟨sl, e⟩ := I.base.slot L o ho (I.ok.frf L hL) hL fun z => I.ok.A1 L z hL
      exact ⟨hk, ⟨L, _, hf, hn, e, hd⟩, ih (fun b hb => hs b (by unfold frs; rw [List.filterMap_cons, hf]; exact List.mem_cons_of_mem _ hb)) hr⟩
  exact all X.outer (fun _ hb => hb) I.ok.mq
theorem Inv.stack (I : Inv X pins σ H s) : s.heap.FunFrames X.base X.stack := by
  rcases I.ok.stk with e | ⟨e, hf⟩
  · rw [e]; exact I.mq
  · rw [e]
    obtain ⟨m, hn, _⟩ := I.loc
    refine .cons (by rw [I.ok.kind]; decide) hf hn ?_ I.mq
    exact Heap.get?_none_of_le (Nat.le_trans I.ok.bsz I.ok.above)
theorem Inv.r9 (I : Inv X pins σ H s) : ∀ b ∈ frs X.stack, b ∈ X.env.locals :: X.fs := fun b hb => by
  rcases I.ok.stk with e | ⟨e, hf⟩
  · rw [e] at hb; exact List.mem_cons_of_mem _ hb
  · rw [e] at hb
    unfold frs at hb
    rw [List.filterMap_cons, hf] at hb
    exact hb
theorem Inv.vq (I : Inv X pins σ H s) : ∀ b ∈ frs X.stack, H b = none := fun b hb => by
  rcases List.mem_cons.mp (I.r9 b hb) with e | hb
  · rw [e]; exact I.free
  · obtain ⟨_, o, ho, _⟩ := I.ok.mq.mem hb
    exact I.base.free b o ho (I.ok.frf b hb) fun z => I.ok.A1 b z hb
theorem Inv.step {g' : Array GenState} {t' : Nat} {d' : Drawn} {ch : List Addr} (I : Inv X pins σ H s)
    (hch : ∀ b ∈ ch, (b ∈ X.ex \/ X.aM.heap.objs.size <= b) /\ b ≠ X.env.locals /\ (∀ x c, X.env.cells.lookup x = some c -> c ≠ b) /\ ∀ p ∈ X.pn ++ pins, p.1 ≠ b)
    (keep : ∀ b o, b ≠ X.env.locals -> b ∉ X.fs -> b ∉ ch -> s.heap.get? b = some o -> H b = none -> h'.get? b = some o)
    (slot : ∀ b o, b ≠ X.env.locals -> b ∈ X.fs -> b ∉ ch -> s.heap.get? b = some o -> H b = none -> ∃ sl, h'.get? b = some { o with slots := sl }) (free : ∀ b o, b ∉ ch -> s.heap.get? b = some o -> H b = none -> H' b = none)
    (there : ∀ b o, b ∉ ch -> s.heap.get? b = some o -> ∃ o', h'.get? b = some o')
    (my : ∀ b xs, H b = some (.tup xs) -> H' b = some (.tup xs)) (lO : ∀ b o u, H b = some (.frz o u) -> H' b = some (.frz o u)) (mM : ∀ b ps, H b = some (.tbl ps) -> ∃ more, H' b = some (.tbl (ps ++ more)))
    (ns : ∀ m, s.heap.Ns X.env.locals m -> h'.Ns X.env.locals m) (hok : HOk X.prog X.w H' h') (hg : AllBare g') :
    Inv X pins σ H' { s with heap := h', gens := g', drawn := d', toks := t' } := by
  have neL : ∀ b o, X.aM.heap.get? b = some o -> b ≠ X.env.locals := fun b o e => Nat.ne_of_lt (Nat.lt_of_lt_of_le (Heap.lt_size e) I.ok.above)
  have neC : ∀ b o, X.aM.heap.get? b = some o -> b ∉ X.ex -> b ∉ ch := fun b o e hx hb => by
    rcases (hch b hb).1 with z | z
    · exact hx z
    · exact absurd (Nat.lt_of_lt_of_le (Heap.lt_size e) z) (Nat.lt_irrefl _)
  have cellK : ∀ x c, X.env.cells.lookup x = some c -> ∀ v, s.heap.IsCell c v -> h'.IsCell c v := fun x c e v ⟨o, ho, hd⟩ => by
    have nch : c ∉ ch := fun z => (hch c z).2.2.1 x c e rfl
    by_cases hc : c ∈ X.fs
    · obtain ⟨sl, q⟩ := slot c o (I.cne x c e) hc nch ho (I.iP x c e)
      exact ⟨_, q, hd⟩
    · exact ⟨o, keep c o (I.cne x c e) hc nch ho (I.iP x c e), hd⟩
  refine ⟨I.ok, I.os, hg, ⟨fun b o e n hb hx => ?_, fun b o e n hb hx => ?_, fun b o e n hx => ?_, fun b o e hx => ?_, fun b xs e => my b xs (I.base.my b xs e), fun b o xs e => lO b o xs (I.base.lO b o xs e), fun b ps e => ?_⟩, ?_, fun x c e => ?_, ?_, fun x c e => ?_, fun p hp => ?_, hok, I.len⟩
  · exact keep b o (neL b o e) hb (neC b o e hx) (I.base.keep b o e n hb hx) (I.base.free b o e n hx)
  · obtain ⟨sl, e1⟩ := I.base.slot b o e n hb hx
    obtain ⟨sl', e2⟩ := slot b _ (neL b o e) hb (neC b o e hx) e1 (I.base.free b o e n hx)
    exact ⟨sl', e2⟩
  · obtain ⟨o', e1⟩ := I.base.there b o e hx
    exact free b o' (neC b o e hx) e1 (I.base.free b o e n hx)
  · obtain ⟨o', e1⟩ := I.base.there b o e hx
    exact there b o' (neC b o e hx) e1
  · obtain ⟨m1, e1⟩ := I.base.mM b ps e
    obtain ⟨m2, e2⟩ := mM b _ e1
    exact ⟨m1 ++ m2, by rw [e2, Array.append_assoc]⟩
  · obtain ⟨m, hn, hl⟩ := I.loc
    refine ⟨m, ns m hn, fun i x v e1 e2 e3 => ?_⟩
    obtain ⟨u, r, l⟩ := hl i x v e1 e2 e3
    refine ⟨u, r, ?_⟩
    rcases l with l | ⟨k, c, e, z⟩
    · exact .inl l
    · exact .inr ⟨k, c, e, cellK x c e _ z⟩
  · obtain ⟨v, z⟩ := I.cell x c e
    exact ⟨v, cellK x c e v z⟩
  · obtain ⟨m, ⟨o, _, _, ho, _⟩, _⟩ := I.loc
    exact free _ o (fun z => (hch _ z).2.1 rfl) ho I.free
  · obtain ⟨v, o, ho, hd⟩ := I.cell x c e
    exact free c o (fun z => (hch c z).2.2.1 x c e rfl) ho (I.iP x c e)
  · obtain ⟨e, n, ne, nf, d⟩ := I.pin p hp
    have nch : p.1 ∉ ch := fun z => (hch p.1 z).2.2.2 p hp rfl
    exact ⟨keep p.1 p.2 ne nf nch e n, free p.1 p.2 nch e n, ne, nf, d⟩
theorem Inv.un {t' : Nat} (I : Inv X pins σ H s) (u : Un X.fs [] H H' s.heap h') (hok : HOk X.prog X.w H' h') : Inv X pins σ H' { s with heap := h', toks := t' } := by
  obtain ⟨m, ⟨o, es, ep, ho, r⟩, _⟩ := id I.loc
  obtain ⟨sl, hL⟩ := u.any ho I.free (by simp)
  exact I.step (g' := s.gens) (d' := s.drawn) (ch := []) (fun _ z => nomatch z) (fun b o _ hb _ e n => u.keep b o e n hb (by simp)) (fun b o _ hb _ e n => u.slot b o e n hb (by simp)) (fun b o _ e n => u.free b o e n (by simp)) (fun b o _ e => u.there b o e (by simp)) u.my u.lO u.mM (fun m' hm => by
    obtain ⟨o', es', ep', ho', r'⟩ := hm
    rw [ho] at ho'; cases ho'
    exact ⟨_, es', ep', hL, r'⟩) hok I.bare
theorem Inv.call {g' : Array GenState} {t' : Nat} {d' : Drawn} {ch : List Addr} (I : Inv X pins σ H s) (u : Un (frs X.stack) ch H H' s.heap h') (hok : HOk X.prog X.w H' h') (hg : AllBare g')
    (hch : ∀ b ∈ ch, (b ∈ X.ex \/ X.aM.heap.objs.size <= b) /\ b ≠ X.env.locals /\ (∀ x c, X.env.cells.lookup x = some c -> c ≠ b) /\ ∀ p ∈ X.pn ++ pins, p.1 ≠ b) :
    Inv X pins σ H' { s with heap := h', gens := g', drawn := d', toks := t' } := by
  obtain ⟨m, ⟨o, es, ep, ho, r⟩, _⟩ := id I.loc
  obtain ⟨sl, hL⟩ := u.any ho I.free fun z => (hch _ z).2.1 rfl
  exact I.step (ch := ch) hch (fun b o hL hb hc e n => u.keep b o e n (fun z => (List.mem_cons.mp (I.r9 b z)).elim hL hb) hc) (fun b o _ _ hc e n => u.any e n hc) (fun b o hc e n => u.free b o e n hc) (fun b o hc e => u.there b o e hc) u.my u.lO u.mM (fun m' hm => by
    obtain ⟨o', es', ep', ho', r'⟩ := hm
    rw [ho] at ho'; cases ho'
    exact ⟨_, es', ep', hL, r'⟩) hok hg
theorem Inv.turned {t' : Nat} {it : Addr} (I : Inv X pins σ H s) (k : ∀ b o, b ≠ it -> s.heap.get? b = some o -> h'.get? b = some o) (hn : H it = none) (hL : it ≠ X.env.locals)
    (h1 : it ∈ X.ex \/ X.aM.heap.objs.size <= it) (h2 : ∀ x c, X.env.cells.lookup x = some c -> c ≠ it) (h3 : ∀ p ∈ X.pn ++ pins, p.1 ≠ it) : Inv X pins σ H { s with heap := h', toks := t' } := by
  have nit : ∀ b u, H b = some u -> b ≠ it := fun b u e z => by rw [z, hn] at e; cases e
  refine I.step (g' := s.gens) (d' := s.drawn) (ch := [it]) (fun b hb => ?_) (fun b o _ _ hc e _ => k b o (fun z => hc (by simp [z])) e) (fun b o _ _ hc e _ => ⟨o.slots, k b o (fun z => hc (by simp [z])) e⟩) (fun _ _ _ _ n => n)
    (fun b o hc e => ⟨o, k b o (fun z => hc (by simp [z])) e⟩) (fun _ _ e => e) (fun _ _ _ e => e) (fun b ps e => ⟨#[], by rw [e]; simp⟩) (fun m hm => ?_) (fun b u e => ?_) I.bare
  · have e : b = it := by simpa using hb
    subst e
    exact ⟨h1, hL, h2, h3⟩
  · obtain ⟨o, es, ep, ho, r⟩ := hm
    exact ⟨o, es, ep, k _ o (Ne.symm hL) ho, r⟩
  · refine (I.hok b u e).lC (fun c v hc q => k c v ?_ q) (fun _ q => q) fun _ _ q => q
    rcases hc with z | z
    · rw [z]; exact nit b u e
    · exact nit c _ z
theorem Inv.tok (I : Inv X pins σ H s) (t : Nat) : Inv X pins σ H { s with toks := t } := I.un (h' := s.heap) (t' := t) Un.refl I.hok
theorem Inv.kept {t' : Nat} (I : Inv X pins σ H s) (k : ∀ b u, s.heap.get? b = some u -> h'.get? b = some u) : Inv X pins σ H { s with heap := h', toks := t' } := I.un (Un.kept k) (I.hok.kept k)
theorem Inv.laid {a : Addr} {o : HO} {t' : Nat} (I : Inv X pins σ H s) (k : ∀ b u, s.heap.get? b = some u -> h'.get? b = some u) (hp : s.heap.objs.size <= a) (new : cP X.prog X.w (upd H a o) h' a o) :
    Inv X pins σ (upd H a o) { s with heap := h', toks := t' } := I.un (Un.laid k hp (I.hok.fresh hp)) (I.hok.laid k hp new)
theorem Inv.write {x e : Addr} {o : HO} {t' : Nat} (I : Inv X pins σ H s) (mu : Mut (H x)) (he : e = x \/ H e = some (.own x)) (k : ∀ b u, b ≠ e -> s.heap.get? b = some u -> h'.get? b = some u) (heo : ∃ u, h'.get? e = some u)
    (new : cP X.prog X.w (upd H x o) h' x o) : Inv X pins σ (upd H x o) { s with heap := h', toks := t' } := I.un (Un.write mu he k heo) (I.hok.write mu he k heo new)
theorem Inv.m_ {pins' : List (Addr × Obj)} (I : Inv X pins σ H s) (h : ∀ p ∈ pins', s.heap.get? p.1 = some p.2 /\ H p.1 = none /\ p.1 ≠ X.env.locals /\ p.1 ∉ X.fs /\ ∀ v, p.2.data ≠ .cell v) : Inv X pins' σ H s :=
  ⟨I.ok, I.os, I.bare, I.base, I.loc, I.cell, I.free, I.iP, fun p hp => (List.mem_append.mp hp).elim (fun z => I.pin p (List.mem_append_left _ z)) (h p), I.hok, I.len⟩
theorem sU {N : List Str} (hN : N.Nodup) {i j : Nat} {x : Str} (a : N[i]? = some x) (b : N[j]? = some x) : i = j := by
  obtain ⟨h1, e1⟩ := List.getElem?_eq_some_iff.mp a
  obtain ⟨h2, e2⟩ := List.getElem?_eq_some_iff.mp b
  exact (List.getElem_inj hN).mp (e1.trans e2.symm)
theorem wu {M : Model} {A : Around} {E : Value -> Shared -> Prop} {i : Nat} {x : Str} {v : V} {u : Value} {Q : Unit -> Shared -> Prop} (I : Inv X pins σ H s) (hN : X.N.Nodup) (hi : X.N[i]? = some x) (hx : Loc X.env.scope x) (r : RelV v u)
    (h : ∀ s', Inv X pins (σ.set i (some v)) H s' -> (∃ a, Heap.SameBut a s.heap s'.heap /\ (a = X.env.locals \/ X.env.cells.lookup x = some a)) -> Q () s') (hf : X.fn x = true \/ X.env.scope.names.lookup x = some .local := by first | exact .inl rfl | exact .inr rfl | assumption) : wpAny M A (storeName X.env x u) Q E s := by
  obtain ⟨m, hn, hl⟩ := id I.loc
  have hcls : (X.env.scope.kind == .class || (X.env.scope.kind == .module && X.env.locals != X.env.globals)) = false := by rw [I.ok.kind]; rfl
  have hiσ : i < σ.length := by rw [I.len]; exact (List.getElem?_eq_some_iff.mp hi).1
  have cne := I.cne
  have tracked : ∀ {a : Addr} {h' : Heap}, (∃ o, s.heap.get? a = some o /\ H a = none) -> Heap.SameBut a s.heap h' -> HOk X.prog X.w H h' := fun {a h'} ha hs b ob e => by
    obtain ⟨_, _, hfree⟩ := ha
    refine (I.hok b ob e).lC (fun c w' hc q => (hs.2 c ?_).trans q) (fun _ q => q) fun _ _ q => q
    rintro rfl
    rcases hc with rfl | hc
    · rw [hfree] at e; cases e
    · rw [hfree] at hc; cases hc
  rcases hx with hk | hk
  · refine wpAny_storeName_local hk hn (fun h' hn' hs => ?_) hcls
    obtain ⟨oL, _, _, hoL, _⟩ := id hn
    refine h _ ⟨I.ok, I.os, I.bare, ⟨fun b o e n hb hx => ?_, fun b o e n hb hx => ?_, I.base.free, fun b o e hx => ?_, I.base.my, I.base.lO, I.base.mM⟩, ⟨_, hn', fun j y v' e1 e2 e3 => ?_⟩, fun y c e => ?_, I.free, I.iP, fun p hp => ?_, tracked ⟨oL, hoL, I.free⟩ hs, by simpa using I.len⟩ ⟨_, hs, .inl rfl⟩
    · exact (hs.2 b (Nat.ne_of_lt (Nat.lt_of_lt_of_le (Heap.lt_size e) I.ok.above))).trans (I.base.keep b o e n hb hx)
    · obtain ⟨sl, e1⟩ := I.base.slot b o e n hb hx
      exact ⟨sl, (hs.2 b (Nat.ne_of_lt (Nat.lt_of_lt_of_le (Heap.lt_size e) I.ok.above))).trans e1⟩
    · obtain ⟨o', e1⟩ := I.base.there b o e hx
      exact ⟨o', (hs.2 b (Nat.ne_of_lt (Nat.lt_of_lt_of_le (Heap.lt_size e) I.ok.above))).trans e1⟩
    · by_cases hj : j = i
      · subst hj
        rw [hi] at e1; cases e1
        rw [List.getElem?_set_self hiσ] at e2
        cases e2
        exact ⟨u, r, .inl ⟨hk, by simp⟩⟩
      · rw [List.getElem?_set_ne (Ne.symm hj)] at e2
        obtain ⟨u', r', q⟩ := hl j y v' e1 e2 e3
        refine ⟨u', r', ?_⟩
        rcases q with ⟨k, e⟩ | ⟨k, c, e, z⟩
        · refine .inl ⟨k, ?_⟩
          have : y ≠ x := fun e => hj (sU hN e1 (e ▸ hi))
          simp [this, e]
        · exact .inr ⟨k, c, e, z.sameBut hs (cne y c e)⟩
    · obtain ⟨w', z⟩ := I.cell y c e
      exact ⟨w', z.sameBut hs (cne y c e)⟩
    · obtain ⟨e, n, ne, nf, d⟩ := I.pin p hp
      exact ⟨(hs.2 p.1 ne).trans e, n, ne, nf, d⟩
  · have hfn : X.fn x = true := by
      rcases hf with z | z
      · exact z
      · rw [z] at hk; cases hk
    obtain ⟨c, hc⟩ := I.ok.has x (.inl hk)
    obtain ⟨w', z⟩ := I.cell x c hc
    refine wpAny_storeName_cell I.ok.kind hk hc z (fun h' hc' hs => ?_)
    obtain ⟨oc, hoc, hocd⟩ := id z
    refine h { s with heap := h' } ⟨I.ok, I.os, I.bare, ⟨fun b o e n hb hx => ?_, fun b o e n hb hx => ?_, I.base.free, fun b o e hx => ?_, I.base.my, I.base.lO, I.base.mM⟩, ⟨m, hn.sameBut hs (Ne.symm (cne x c hc)), fun j y v' e1 e2 e3 => ?_⟩, fun y c' e => ?_, I.free, I.iP, fun p hp => ?_, tracked ⟨oc, hoc, I.iP x c hc⟩ hs, by simpa using I.len⟩ ⟨c, hs, .inr hc⟩
    · exact (hs.2 b (Nat.ne_of_lt (Nat.lt_of_lt_of_le (Heap.lt_size e) (I.ok.cab x c hfn hc)))).trans (I.base.keep b o e n hb hx)
    · obtain ⟨sl, e1⟩ := I.base.slot b o e n hb hx
      exact ⟨sl, (hs.2 b (Nat.ne_of_lt (Nat.lt_of_lt_of_le (Heap.lt_size e) (I.ok.cab x c hfn hc)))).trans e1⟩
    · obtain ⟨o', e1⟩ := I.base.there b o e hx
      exact ⟨o', (hs.2 b (Nat.ne_of_lt (Nat.lt_of_lt_of_le (Heap.lt_size e) (I.ok.cab x c hfn hc)))).trans e1⟩
    · by_cases hj : j = i
      · subst hj
        rw [hi] at e1; cases e1
        rw [List.getElem?_set_self hiσ] at e2
        cases e2
        exact ⟨u, r, .inr ⟨.inl hk, c, hc, hc'⟩⟩
      · rw [List.getElem?_set_ne (Ne.symm hj)] at e2
        obtain ⟨u', r', q⟩ := hl j y v' e1 e2 e3
        refine ⟨u', r', ?_⟩
        rcases q with q | ⟨k, c', e, z'⟩
        · exact .inl q
        · refine .inr ⟨k, c', e, z'.sameBut hs ?_⟩
          rintro rfl
          exact hj (sU hN e1 (I.ok.inj _ _ _ e hc ▸ hi))
    · by_cases hcc : c' = c
      · subst hcc; exact ⟨_, hc'⟩
      · obtain ⟨w2, z2⟩ := I.cell y c' e
        exact ⟨w2, z2.sameBut hs hcc⟩
    · obtain ⟨e, n, ne, nf, d⟩ := I.pin p hp
      refine ⟨(hs.2 p.1 ?_).trans e, n, ne, nf, d⟩
      intro q
      rw [q, hoc] at e
      have q' : oc = p.2 := Option.some.inj e
      exact d w' (by rw [<- q']; exact hocd)
theorem kY {M : Model} {A : Around} {E : Value -> Shared -> Prop} {i : Nat} {x : Str} {v : V} {u : Value} {Q : Unit -> Shared -> Prop} (I : Inv X pins σ H s) (hN : X.N.Nodup) (hi : X.N[i]? = some x) (hx : Loc X.env.scope x) (r : RelV v u)
    (h : ∀ s', Inv X pins (σ.set i (some v)) H s' -> Q () s') (hf : X.fn x = true \/ X.env.scope.names.lookup x = some .local := by first | exact .inl rfl | exact .inr rfl | assumption) : wpAny M A (storeName X.env x u) Q E s :=
  wu I hN hi hx r (fun s' I' _ => h s' I') hf
theorem Inv.vN {s' : Shared} {ch : List Addr} (I : Inv X pins σ H s) (ho : s'.os = s.os) (u : Un (frs X.stack) ch H H' s.heap s'.heap) (hok : HOk X.prog X.w H' s'.heap) (hg : AllBare s'.gens)
    (hch : ∀ b ∈ ch, (b ∈ X.ex \/ X.aM.heap.objs.size <= b) /\ b ≠ X.env.locals /\ (∀ x c, X.env.cells.lookup x = some c -> c ≠ b) /\ ∀ p ∈ X.pn ++ pins, p.1 ≠ b) : Inv X pins σ H' s' := by
  obtain ⟨h', g', d', t', o'⟩ := s'
  have e : o' = s.os := ho
  subst e
  exact I.call (g' := g') (t' := t') (d' := d') u hok hg hch
end
noncomputable abbrev XK := Value -> Option Addr -> Hp -> Prop
noncomputable abbrev St := List (Option V)
noncomputable abbrev VK := V -> Hp -> Prop
noncomputable abbrev TE := St -> Hp -> VK -> Prop
noncomputable abbrev TT := St -> Hp -> (Bool -> Hp -> Prop) -> Prop
noncomputable abbrev TA := St -> Hp -> (List V -> Hp -> Prop) -> Prop
structure Ends where
  nx : St -> Hp -> Prop
  rt : VK
  bk : St -> Hp -> Prop := fun _ _ => False
  ct : St -> Hp -> Prop := fun _ _ => False
noncomputable abbrev TS := Ends -> St -> Hp -> Prop
noncomputable def EP (X : Cx) (pins : List (Addr × Obj)) (σ : St) (Q : VK) (u : Value) (s' : Shared) : Prop := ∃ v H', Inv X pins σ H' s' /\ RelV v u /\ Q v H'
noncomputable def TP (X : Cx) (pins : List (Addr × Obj)) (σ : St) (Q : Bool -> Hp -> Prop) (b : Bool) (s' : Shared) : Prop := ∃ H', Inv X pins σ H' s' /\ Q b H'
noncomputable def AP (X : Cx) (pins : List (Addr × Obj)) (σ : St) (Q : List V -> Hp -> Prop) (us : List Value) (s' : Shared) : Prop := ∃ vs H', Inv X pins σ H' s' /\ Vals vs us /\ Q vs H'
noncomputable def SP (X : Cx) (pins : List (Addr × Obj)) (D : Ends) (f : Flow) (s' : Shared) : Prop :=
  match f with
  | .next => ∃ σ' H', Inv X pins σ' H' s' /\ D.nx σ' H'
  | .brk => ∃ σ' H', Inv X pins σ' H' s' /\ D.bk σ' H'
  | .cont => ∃ σ' H', Inv X pins σ' H' s' /\ D.ct σ' H'
  | .ret u => ∃ v σ' H', Inv X pins σ' H' s' /\ RelV v u /\ D.rt v H'
noncomputable def PE (X : Cx) (e : Expr) (t : TE) : Prop :=
  ∀ (pins : List (Addr × Obj)) (s : Shared) (σ : St) (H : Hp) (Q : VK), Inv X pins σ H s -> t σ H Q -> wpAny (model X.prog X.w) X.A (eval e X.env) (EP X pins σ Q) X.xe s
noncomputable def PT (X : Cx) (e : Expr) (t : TT) : Prop :=
  ∀ (pins : List (Addr × Obj)) (s : Shared) (σ : St) (H : Hp) (Q : Bool -> Hp -> Prop), Inv X pins σ H s -> t σ H Q -> wpAny (model X.prog X.w) X.A (isTrue e X.env (eval e X.env)) (TP X pins σ Q) X.xe s
noncomputable def PW (X : Cx) (e : Expr) (t : TT) : Prop :=
  ∀ (whole : Sem Value) (pins : List (Addr × Obj)) (s : Shared) (σ : St) (H : Hp) (Q : Bool -> Hp -> Prop), Inv X pins σ H s -> t σ H Q -> wpAny (model X.prog X.w) X.A (isTrue e X.env whole) (TP X pins σ Q) X.xe s
theorem PW.pt {X : Cx} {e : Expr} {t : TT} (h : PW X e t) : PT X e t := h _
noncomputable def PA (X : Cx) (es : List Expr) (t : TA) : Prop :=
  ∀ (pos : Pos) (pins : List (Addr × Obj)) (s : Shared) (σ : St) (H : Hp) (Q : List V -> Hp -> Prop), Inv X pins σ H s -> t σ H Q -> wpAny (model X.prog X.w) X.A (spliced (backTo pos (starEach es X.env))) (AP X pins σ Q) X.xe s
noncomputable def PS (X : Cx) (st : Stmt) (t : TS) : Prop :=
  ∀ (pins : List (Addr × Obj)) (s : Shared) (σ : St) (H : Hp) (D : Ends), Inv X pins σ H s -> t D σ H -> wpAny (model X.prog X.w) X.A (exec st X.env) (SP X pins D) X.xe s
noncomputable def PSs (X : Cx) (st : List Stmt) (t : TS) : Prop :=
  ∀ (pins : List (Addr × Obj)) (s : Shared) (σ : St) (H : Hp) (D : Ends), Inv X pins σ H s -> t D σ H -> wpAny (model X.prog X.w) X.A (execs st X.env) (SP X pins D) X.xe s
theorem thn {α : Type} {t : Sem α} {Q Q' : α -> Shared -> Prop} {M : Model} {A : Around} {E : Value -> Shared -> Prop} {s : Shared} (h : wpAny M A t Q E s) (hQ : ∀ a s, Q a s -> Q' a s) : wpAny M A t Q' E s := wpAny_mono h hQ fun _ _ x => x
section
variable {X : Cx}
noncomputable def Fc (i : Nat) : TE := fun σ H Q => ∃ v, σ[i]? = some (some v) /\ Q v H
noncomputable def tC (v : V) : TE := fun _ H Q => Q v H
theorem BV {i : Nat} {x : Str} {pos : Pos} (hN : X.N[i]? = some x) (hv : Vis X.env.scope x) (hd : (x == ("__debug__" : Str)) = false := by decide) (hcd : (x == ("__classdict__" : Str)) = false := by decide) : PE X (.Name x pos) (Fc i) := by
  intro pins s σ H Q I h
  obtain ⟨v, e, h⟩ := h
  obtain ⟨m, hn, hl⟩ := I.loc
  obtain ⟨u, r, l⟩ := hl i x v hN e hv
  have fin : EP X pins σ Q u s := ⟨v, H, I, r, h⟩
  rcases l with ⟨hk, hm⟩ | ⟨hk, c, hc, hcell⟩
  · exact wpAny_Name (wpAny_loadName_local I.ok.kind hk hn hm fin) hd
  · rcases hk with hk | hk
    · exact wpAny_Name (wpAny_loadName_cell I.ok.kind hk hc hcell fin) hd
    · exact wpAny_Name (wpAny_loadName_free I.ok.kind hk hc hcell fin hcd) hd
theorem BM {i j pos} : PE X (.Constant (.int i) j pos) (tC (.int i)) := fun _ _ _ H _ I h => wpAny_Constant_int ⟨.int i, H, I.tok _, ⟨_, rfl⟩, h⟩
theorem DW {b j pos} : PE X (.Constant (.bool b) j pos) (tC (.bl b)) := fun _ _ _ H _ I h => Constant_bool ⟨.bl b, H, I, rfl, h⟩
theorem CS {j pos} : PE X (.Constant .none j pos) (tC .non) := fun _ _ _ H _ I h => Constant_none ⟨.non, H, I, rfl, h⟩
noncomputable def Gl (X : Cx) (x : Str) : Prop := X.env.kindOf x = some .globalImplicit
theorem vj {E : Value -> Shared -> Prop} {pins : List (Addr × Obj)} {s : Shared} {σ : St} {H : Hp} {x : Str} {u : Value} {pos : Pos} {Q : Value -> Shared -> Prop} (I : Inv X pins σ H s) (hg : Gl X x) (hm : X.mg x = some u) (h : Q u s)
    (hd : (x == ("__debug__" : Str)) = false := by decide) : wpAny (model X.prog X.w) X.A (eval (.Name x pos) X.env) Q E s :=
  Calls.Name_function_global I.ok.kind hg (Calls.loadGlobal_global (by rw [I.ok.glob]; exact I.mod.glob.keeps I.bk) hm h) hd
theorem j5 {E : Value -> Shared -> Prop} {pins : List (Addr × Obj)} {s : Shared} {σ : St} {H : Hp} {x : Str} {u : Value} {pos : Pos} {Q : Value -> Shared -> Prop} (I : Inv X pins σ H s) (hg : Gl X x) (hm : X.mg x = none) (hv : bootBuiltins x = some u) (h : Q u s)
    (hn : x ≠ "__name__" := by decide) (hd : (x == ("__debug__" : Str)) = false := by decide) : wpAny (model X.prog X.w) X.A (eval (.Name x pos) X.env) Q E s := by
  obtain ⟨mb, h1, h2⟩ := I.mod.blt
  exact Calls.Name_function_global I.ok.kind hg (Calls.loadGlobal_builtin (by rw [I.ok.glob]; exact I.mod.glob.keeps I.bk) hm (by rw [I.ok.blt]; exact h1.keeps I.bk) ((h2 x hn).trans hv) h) hd
theorem Ax {x : Str} {v : V} {u : Value} {pos : Pos} (hg : Gl X x) (hm : X.mg x = some u) (r : RelV v u) (hd : (x == ("__debug__" : Str)) = false := by decide) : PE X (.Name x pos) (tC v) :=
  fun _ _ _ H _ I h => vj I hg hm ⟨v, H, I, r, h⟩ hd
theorem zO {x : Str} {v : V} {u : Value} {pos : Pos} (hg : Gl X x) (hm : X.mg x = none) (hv : bootBuiltins x = some u) (r : RelV v u) (hn : x ≠ "__name__" := by decide) (hd : (x == ("__debug__" : Str)) = false := by decide) : PE X (.Name x pos) (tC v) :=
  fun _ _ _ H _ I h => j5 I hg hm hv ⟨v, H, I, r, h⟩ hn hd
variable {a b : Expr} {ta tb : TE} {pos : Pos}
variable {tA tB' : TT} {rest : List Expr}
noncomputable def FJ (t u : TT) : TT := fun σ H Q => t σ H fun c H1 => if c = true then u σ H1 Q else Q false H1
noncomputable def tOr (t u : TT) : TT := fun σ H Q => t σ H fun c H1 => if c = true then Q true H1 else u σ H1 Q
noncomputable def Fw (t : TT) : TT := fun σ H Q => t σ H fun c H1 => Q (!c) H1
theorem pw_and1 (ha : PT X a tA) : PW X (.BoolOp .And [a] pos) tA := by
  intro wh pins s σ H Q I h
  refine isTrue_and (thn (ha pins s σ H Q I h) fun c s1 e => ?_)
  cases c with
  | true => exact isTrue_and_nil e
  | false => exact e
theorem pw_or1 (ha : PT X a tA) : PW X (.BoolOp .Or [a] pos) tA := by
  intro wh pins s σ H Q I h
  refine isTrue_or (thn (ha pins s σ H Q I h) fun c s1 e => ?_)
  cases c with
  | false => exact isTrue_or_nil e
  | true => exact e
theorem pw_and (ha : PT X a tA) (hb : PW X (.BoolOp .And (b :: rest) pos) tB') : PW X (.BoolOp .And (a :: b :: rest) pos) (FJ tA tB') := by
  intro wh pins s σ H Q I h
  refine isTrue_and (thn (ha pins s σ H _ I h) fun c s1 ⟨H1, I1, q1⟩ => ?_)
  cases c with
  | true => exact hb wh pins s1 σ H1 Q I1 q1
  | false => exact ⟨H1, I1, q1⟩
theorem pw_or (ha : PT X a tA) (hb : PW X (.BoolOp .Or (b :: rest) pos) tB') : PW X (.BoolOp .Or (a :: b :: rest) pos) (tOr tA tB') := by
  intro wh pins s σ H Q I h
  refine isTrue_or (thn (ha pins s σ H _ I h) fun c s1 ⟨H1, I1, q1⟩ => ?_)
  cases c with
  | true => exact ⟨H1, I1, q1⟩
  | false => exact hb wh pins s1 σ H1 Q I1 q1
theorem C6 (ha : PT X a tA) : PT X (.UnaryOp .Not a pos) (Fw tA) := by
  intro pins s σ H Q I h
  exact isTrue_not (ha pins s σ H (fun c H1 => Q (!c) H1) I h)
noncomputable def Dy (ta tb : TE) : TE := fun σ H Q => ta σ H fun x H1 => ∃ c, x = .bl c /\ if c = true then tb σ H1 Q else Q (.bl false) H1
noncomputable def El (ta : TE) : TE := fun σ H Q => ta σ H fun x H1 => ∃ c, x = .bl c /\ Q (.bl (!c)) H1
theorem B2 {op} {t : TE} (h : PE X a t) : PE X (.BoolOp op [a] pos) t := fun pins s σ H Q I hw => BoolOp_one (h pins s σ H Q I hw)
theorem De (ha : PE X a ta) (hb : PE X (.BoolOp .And (b :: rest) pos) tb) : PE X (.BoolOp .And (a :: b :: rest) pos) (Dy ta tb) := by
  intro pins s σ H Q I h
  refine BoolOp_and (thn (ha pins s σ H _ I h) fun v s1 ⟨x, H1, I1, r1, q1⟩ => ?_)
  obtain ⟨c, rfl, q1⟩ := q1
  cases r1
  refine wpAny_truthy_bool ?_
  cases c with
  | true => exact hb pins s1 σ H1 Q I1 q1
  | false => exact ⟨.bl false, H1, I1, rfl, q1⟩
theorem Dd (ha : PE X a ta) : PE X (.UnaryOp .Not a pos) (El ta) := by
  intro pins s σ H Q I h
  refine UnaryOp_ (thn (ha pins s σ H _ I h) fun v s1 ⟨x, H1, I1, r1, q1⟩ => ?_)
  obtain ⟨c, rfl, q1⟩ := q1
  cases r1
  exact not_of (wpAny_truthy_bool ⟨.bl (!c), H1, I1, rfl, q1⟩)
noncomputable def tIf (t : TT) (ta tb : TE) : TE := fun σ H Q => t σ H fun c H1 => if c = true then ta σ H1 Q else tb σ H1 Q
theorem ze {c : Expr} (hc : PT X c tA) (ha : PE X a ta) (hb : PE X b tb) : PE X (.IfExp c a b pos) (tIf tA ta tb) := by
  intro pins s σ H Q I h
  refine wpAny_IfExp (thn (hc pins s σ H _ I h) fun d s1 ⟨H1, I1, q1⟩ => ?_)
  cases d with
  | true => exact ha pins s1 σ H1 Q I1 q1
  | false => exact hb pins s1 σ H1 Q I1 q1
end
noncomputable def SqL (K : PySem.W.Frag) (H : Hp) (a : Addr) (xs : List V) : Prop :=
  Rd H a (.lst xs) ∨
    ∃ (o : Obj) (its : Array Value) (n : Nat), K.lookup a = some o /\ o.cls = .type "list" /\ o.dict = none /\ o.data = .seq its n /\ its.size <= sizeLine /\ Vals xs its.toList
noncomputable def SqT (K : PySem.W.Frag) (H : Hp) (a : Addr) (xs : List V) : Prop :=
  Rd H a (.tup xs) ∨
    ∃ (o : Obj) (its : Array Value) (n : Nat), K.lookup a = some o /\ o.cls = .type "tuple" /\ o.data = .seq its n /\ its.size <= sizeLine /\ Vals xs its.toList
noncomputable def F3 : Value -> Option V
  | .none => some .non
  | .bool b => some (.bl b)
  | .int i _ => some (.int i)
  | .str x _ => some (.str x)
  | .bytes b _ => some (.byt b)
  | .float b _ => some (.flt b)
  | .ref a => some (.ref a)
  | .type n => some (.ty n)
  | _ => none
theorem RelV.abs {x : V} {u : Value} (r : RelV x u) : F3 u = some x := by
  cases x with
  | non => cases r; rfl
  | bl _ => cases r; rfl
  | int _ => obtain ⟨t, rfl⟩ := r; rfl
  | str _ => obtain ⟨t, rfl⟩ := r; rfl
  | byt _ => obtain ⟨t, rfl⟩ := r; rfl
  | flt _ => obtain ⟨t, rfl⟩ := r; rfl
  | ref _ => cases r; rfl
  | ty _ => cases r; rfl
theorem RelV.inj {x y : V} {u : Value} (r : RelV x u) (q : RelV y u) : x = y := Option.some.inj (r.abs.symm.trans q.abs)
theorem Vals.inj : ∀ {xs ys : List V} {us : List Value}, Vals xs us -> Vals ys us -> xs = ys
  | _, _, _, .nil, .nil => rfl
  | _, _, _, .cons r t, .cons r' t' => by rw [r.inj r', Vals.inj t t']
section
variable {X : Cx} {pins : List (Addr × Obj)} {σ : St} {H : Hp} {s : Shared} {a : Addr} {xs ys : List V}
theorem SqL.of {K : PySem.W.Frag} (h : H a = some (.lst xs)) : SqL K H a xs := .inl (.inl h)
theorem SqT.of {K : PySem.W.Frag} (h : H a = some (.tup xs)) : SqT K H a xs := .inl (.inl h)
theorem Inv.list (I : Inv X pins σ H s) (h : SqL X.K H a xs) : ∃ its : List Value, Vals xs its /\ PlainL s.heap a its.toArray /\ xs.length <= sizeLine := by
  rcases h with h | ⟨o, its, n, hk, hc, hd, hs, hz, r⟩
  · obtain ⟨z, its, n, r, e⟩ := h.ok I.hok
    exact ⟨its, r, ⟨_, n, e, rfl, rfl, rfl⟩, z⟩
  · refine ⟨its.toList, r, ⟨o, n, I.kIn a o hk, hc, hd, by simpa using hs⟩, ?_⟩
    have e := r.length
    simp only [Array.length_toList] at e
    omega
theorem Inv.tuple (I : Inv X pins σ H s) (h : SqT X.K H a xs) : ∃ its : List Value, Vals xs its /\ IsTup s.heap a its.toArray /\ xs.length <= sizeLine := by
  rcases h with h | ⟨o, its, n, hk, hc, hs, hz, r⟩
  · obtain ⟨z, its, r, p⟩ := h.ok I.hok
    exact ⟨its, r, p.tup, z⟩
  · refine ⟨its.toList, r, ⟨o, I.kIn a o hk, hc, n, by simpa using hs⟩, ?_⟩
    have e := r.length
    simp only [Array.length_toList] at e
    omega
theorem Inv.jg (I : Inv X pins σ H s) (h : SqL X.K H a xs) (h' : SqL X.K H a ys) : xs = ys := by
  obtain ⟨its, r, ⟨o, n, e, _, _, d⟩, _⟩ := I.list h
  obtain ⟨its', r', ⟨o', n', e', _, _, d'⟩, _⟩ := I.list h'
  rw [e] at e'; cases e'
  rw [d] at d'
  injection d' with d1 _
  have : its = its' := by simpa using congrArg Array.toList d1
  subst this
  exact r.inj r'
theorem Inv.g_ (I : Inv X pins σ H s) (h : SqT X.K H a xs) (h' : SqT X.K H a ys) : xs = ys := by
  obtain ⟨its, r, ⟨o, e, _, n, d⟩, _⟩ := I.tuple h
  obtain ⟨its', r', ⟨o', e', _, n', d'⟩, _⟩ := I.tuple h'
  rw [e] at e'; cases e'
  rw [d] at d'
  injection d' with d1 _
  have : its = its' := by simpa using congrArg Array.toList d1
  subst this
  exact r.inj r'
end
noncomputable abbrev Cx.o8 (X : Cx) (E : Value -> Shared -> Prop) : Cx := { X with xe := E }
noncomputable abbrev Cx.nox (X : Cx) : Cx := X.o8 fun _ _ => False
theorem Cx.Ok.o8 {X : Cx} (ok : X.Ok) (E : Value -> Shared -> Prop) : (X.o8 E).Ok :=
  ⟨ok.mod, ok.kind, ok.glob, ok.blt, ok.above, ok.inj, ok.has, ok.cab, ok.hd, ok.frames, ok.stk, ok.exf, ok.bs, ok.bsz, ok.yt, ok.A1, ok.mq, ok.frf⟩
theorem Cx.Ok.iZ {X : Cx} {E : Value -> Shared -> Prop} (ok : (X.o8 E).Ok) : X.Ok :=
  ⟨ok.mod, ok.kind, ok.glob, ok.blt, ok.above, ok.inj, ok.has, ok.cab, ok.hd, ok.frames, ok.stk, ok.exf, ok.bs, ok.bsz, ok.yt, ok.A1, ok.mq, ok.frf⟩
section
variable {X : Cx} {pins : List (Addr × Obj)} {σ : St} {H : Hp} {s : Shared} {E : Value -> Shared -> Prop}
theorem Inv.o8 (I : Inv X pins σ H s) (E : Value -> Shared -> Prop) : Inv (X.o8 E) pins σ H s := ⟨I.ok.o8 E, I.os, I.bare, I.base, I.loc, I.cell, I.free, I.iP, I.pin, I.hok, I.len⟩
theorem Inv.iZ (I : Inv (X.o8 E) pins σ H s) : Inv X pins σ H s := ⟨I.ok.iZ, I.os, I.bare, I.base, I.loc, I.cell, I.free, I.iP, I.pin, I.hok, I.len⟩
theorem SP.iZ {D : Ends} {f : Flow} {s' : Shared} (h : SP (X.o8 E) pins D f s') : SP X pins D f s' := by
  cases f with
  | next => obtain ⟨σ', H', I, q⟩ := h; exact ⟨σ', H', I.iZ, q⟩
  | brk => obtain ⟨σ', H', I, q⟩ := h; exact ⟨σ', H', I.iZ, q⟩
  | cont => obtain ⟨σ', H', I, q⟩ := h; exact ⟨σ', H', I.iZ, q⟩
  | ret u => obtain ⟨v, σ', H', I, r, q⟩ := h; exact ⟨v, σ', H', I.iZ, r, q⟩
theorem PSs.nox {st : List Stmt} {t : TS} (h : PSs X.nox st t) : PSs X st t := fun pins s σ H D I hw =>
  wpAny_mono (h pins s σ H D (I.o8 _) hw) (fun _ _ q => q.iZ) fun _ _ z => False.elim z
end
section
variable {X : Cx} {st : Stmt} {rest : List Stmt} {t u : TS} {e : Expr} {te : TE} {pos : Pos}
noncomputable def Dz : TS := fun D σ H => D.nx σ H
noncomputable def F5 (t u : TS) : TS := fun D σ H => t { D with nx := u D } σ H
theorem AM : PSs X [] Dz := fun _ _ σ H _ I h => wpAny_execs_nil ⟨σ, H, I, h⟩
theorem xo (h1 : PS X st t) (h2 : PSs X rest u) : PSs X (st :: rest) (F5 t u) := by
  intro pins s σ H D I h
  refine wpAny_execs_cons (thn (h1 pins s σ H { D with nx := u D } I h) fun f s1 q => ?_)
  cases f with
  | next =>
    obtain ⟨σ', H', I', q⟩ := q
    exact h2 pins s1 σ' H' D I' q
  | ret v => exact q
  | brk => exact q
  | cont => exact q
theorem z0 (h1 : PS X st t) : PSs X [st] t := by
  intro pins s σ H D I h
  refine wpAny_execs_cons (thn (h1 pins s σ H D I h) fun f s1 q => ?_)
  cases f with
  | next => exact wpAny_execs_nil q
  | ret v => exact q
  | brk => exact q
  | cont => exact q
noncomputable def Ce : TS := fun D σ H => D.bk σ H
theorem x_ : PS X (.Break pos) Ce := fun _ _ σ H _ I h => wpAny_Break ⟨σ, H, I, h⟩
theorem Inv.quiet {pins : List (Addr × Obj)} {σ : St} {H : Hp} {s : Shared} (I : Inv X pins σ H s) : interactive X.env = false := by simp [interactive, I.ok.kind]
noncomputable def DK (te : TE) : TS := fun D σ H => te σ H fun _ H1 => D.nx σ H1
theorem zM (he : PE X e te) (hs : swapsWith e none pos.line X.env = pure false := by rfl) : PS X (.Expr e pos) (DK te) := by
  intro pins s σ H D I h
  exact wpAny_Expr_any (thn (he pins s σ H _ I h) fun v s1 ⟨x, H1, I1, r1, q1⟩ => ⟨σ, H1, I1, q1⟩) I.quiet hs
noncomputable def Fm (te : TE) : TS := fun D σ H => te σ H D.rt
theorem Co (he : PE X e te) : PS X (.Return (some e) pos) (Fm te) := by
  intro pins s σ H D I h
  exact wpAny_Return_some (thn (he pins s σ H _ I h) fun v s1 ⟨x, H1, I1, r1, q1⟩ => ⟨x, σ, H1, I1, r1, q1⟩)
noncomputable def F7 (c : TT) (t u : TS) : TS := fun D σ H => c σ H fun b H1 => if b = true then t D σ H1 else u D σ H1
theorem Ea {c : Expr} {a b : List Stmt} {tc : TT} (hc : PT X c tc) (ha : PSs X a t) (hb : PSs X b u) : PS X (.If c a b pos) (F7 tc t u) := by
  intro pins s σ H D I h
  refine wpAny_If (thn (hc pins s σ H _ I h) fun d s1 ⟨H1, I1, q1⟩ => ?_)
  cases d with
  | true => exact ha pins s1 σ H1 D I1 q1
  | false => exact hb pins s1 σ H1 D I1 q1
noncomputable def Df : TS := fun _ _ _ => False
theorem kD : PS X st Df := fun _ _ _ _ _ _ h => h.elim
end
noncomputable abbrev TG := V -> St -> Hp -> (St -> Hp -> Prop) -> Prop
noncomputable abbrev TGs := List V -> St -> Hp -> (St -> Hp -> Prop) -> Prop
noncomputable def PG (X : Cx) (target : Expr) (t : TG) : Prop :=
  ∀ (pins : List (Addr × Obj)) (s : Shared) (σ : St) (H : Hp) (v : V) (u : Value) (Q : St -> Hp -> Prop), Inv X pins σ H s -> RelV v u -> t v σ H Q →
    wpAny (model X.prog X.w) X.A (assign target X.env u) (fun _ s' => ∃ σ' H', Inv X pins σ' H' s' /\ Q σ' H') X.xe s
noncomputable def PGs (X : Cx) (ts : List Expr) (t : TGs) : Prop :=
  ∀ (pins : List (Addr × Obj)) (s : Shared) (σ : St) (H : Hp) (vs : List V) (us : List Value) (Q : St -> Hp -> Prop), Inv X pins σ H s -> Vals vs us -> t vs σ H Q →
    wpAny (model X.prog X.w) X.A (assignInOrder ((assignEach ts X.env).map (·.2)) us) (fun _ s' => ∃ σ' H', Inv X pins σ' H' s' /\ Q σ' H') X.xe s
noncomputable abbrev uH := V -> V -> V -> Hp -> (Hp -> Prop) -> Prop
noncomputable def A7 (X : Cx) (t : uH) : Prop :=
  ∀ (pins : List (Addr × Obj)) (s : Shared) (σ : St) (H : Hp) (o i v : V) (ov iv u : Value) (Q : Hp -> Prop), Inv X pins σ H s -> RelV o ov -> RelV i iv -> RelV v u -> t o i v H Q →
    wpAny (model X.prog X.w) X.A (setItem ov iv u) (fun _ s' => ∃ H', Inv X pins σ H' s' /\ Q H') X.xe s
noncomputable abbrev TIp := V -> V -> Hp -> VK -> Prop
noncomputable def PIp (X : Cx) (op : Operator) (t : TIp) : Prop :=
  ∀ (pins : List (Addr × Obj)) (s : Shared) (σ : St) (H : Hp) (x y : V) (v u : Value) (Q : VK), Inv X pins σ H s -> RelV x v -> RelV y u -> t x y H Q →
    wpAny (model X.prog X.w) X.A (inplaceOp op v u) (EP X pins σ Q) X.xe s
section
variable {X : Cx} {pos : Pos}
noncomputable def gq (i : Nat) : TG := fun v σ H Q => Q (σ.set i (some v)) H
theorem cy {i : Nat} {x : Str} (hN : X.N.Nodup) (hi : X.N[i]? = some x) (hx : Loc X.env.scope x) (hf : X.fn x = true \/ X.env.scope.names.lookup x = some .local := by first | exact .inl rfl | exact .inr rfl | assumption) : PG X (.Name x pos) (gq i) := by
  intro pins s σ H v u Q I r h
  exact wpAny_assign_Name (kY I hN hi hx r (fun s' I' => ⟨_, H, I', h⟩) hf)
noncomputable def zt : TGs := fun vs σ H Q => vs = [] /\ Q σ H
noncomputable def kA (t : TG) (u : TGs) : TGs := fun vs σ H Q => ∃ v r, vs = v :: r /\ t v σ H fun σ' H' => u r σ' H' Q
theorem mX : PGs X [] zt := by
  intro pins s σ H vs us Q I r h
  obtain ⟨e, h⟩ := h
  subst e
  cases r
  exact assignInOrder_nil ⟨σ, H, I, h⟩
theorem fG {e : Expr} {es : List Expr} {t : TG} {u : TGs} (h1 : PG X e t) (h2 : PGs X es u)
    (hs : (assignEach (e :: es) X.env).map (·.2) = assign e X.env :: (assignEach es X.env).map (·.2) := by rfl) : PGs X (e :: es) (kA t u) := by
  intro pins s σ H vs us Q I r h
  obtain ⟨v, vr, e1, h⟩ := h
  subst e1
  cases r with
  | cons r rr =>
    rw [hs]
    refine assignInOrder_cons (thn (h1 pins s σ H _ _ _ I r h) fun _ s1 ⟨σ1, H1, I1, q1⟩ => ?_)
    exact h2 pins s1 σ1 H1 _ _ Q I1 rr q1
noncomputable def yG (K : PySem.W.Frag) (n : Nat) (t : TGs) : TG := fun v σ H Q => ∃ a xs, v = .ref a /\ SqT K H a xs /\ xs.length = n /\ t xs σ H Q
theorem qB {es : List Expr} {k : Nat} {t : TGs} {n : Nat} (hc : X.calm = true) (h : PGs X es t)
    (hn : (assignEach es X.env).length = n := by rfl) (hst : (assignEach es X.env).findIdx? (·.1) = none := by rfl) : PG X (.Tuple es k pos) (yG X.K n t) := by
  intro pins s σ H v u Q I r hw
  obtain ⟨a, xs, e1, hq, hl, hw⟩ := hw
  subst e1
  cases r
  obtain ⟨its, rv, ht, hz⟩ := I.tuple hq
  refine assign_Tuple_tuple (I.ok.hd hc) ht (by simp [hn, <- hl, rv.length]) hst fun h' hx => ?_
  have I1 : Inv X pins σ H { s with heap := h' } := I.kept (t' := s.toks) fun b o e => hx b o (Nat.ne_of_lt (Heap.lt_size e)) e
  exact h pins _ σ H xs _ Q I1 (by simpa using rv) hw
noncomputable def FV (to ti : TE) (t : uH) : TG := fun v σ H Q => to σ H fun o H1 => ti σ H1 fun i H2 => t o i v H2 fun H3 => Q σ H3
theorem Ck {o i : Expr} {to ti : TE} {t : uH} (ho : PE X o to) (hi : PE X i ti) (hs : A7 X t)
    (ha : ∀ v, assign (.Subscript o i pos) X.env v = (do
      let ov ← holding [v] (eval o X.env)
      let iv ← holding [v, ov] (eval i X.env)
      standAt pos
      holding [v, ov, iv] (setItem ov iv v)
      release [v, ov, iv] []) := by intro _; rfl) : PG X (.Subscript o i pos) (FV to ti t) := by
  intro pins s σ H v u Q I r h
  rw [ha]
  refine wpAny_bind (wpAny_holding (thn (ho pins s σ H _ I h) fun ov s1 ⟨x, H1, I1, r1, q1⟩ => ?_))
  refine wpAny_bind (wpAny_holding (thn (hi pins s1 σ H1 _ I1 q1) fun iv s2 ⟨y, H2, I2, r2, q2⟩ => ?_))
  refine wpAny_bind (wpAny_standAt (wpAny_bind (wpAny_holding (thn (hs pins s2 σ H2 x y v ov iv u _ I2 r1 r2 r q2) fun _ s3 ⟨H3, I3, q3⟩ => ?_))))
  exact wpAny_release ⟨σ, H3, I3, q3⟩
noncomputable def BP (te : TE) (g : TG) : TS := fun D σ H => te σ H fun x H1 => g x σ H1 D.nx
theorem xH {tg e : Expr} {te : TE} {g : TG} (he : PE X e te) (hg : PG X tg g) (hs : swapsWithSole [tg] e pos.line X.env = pure false := by rfl) (hw : swappedStores [tg] e X.env = pure none := by rfl)
    (h1 : (assignEach [tg] X.env).map (·.2) = [assign tg X.env] := by rfl) : PS X (.Assign [tg] e pos) (BP te g) := by
  intro pins s σ H D I h
  refine wpAny_Assign_stores (thn (he pins s σ H _ I h) fun v s1 ⟨x, H1, I1, r1, q1⟩ => ?_) hs hw
  rw [h1]
  exact thn (hg pins s1 σ H1 x v _ I1 r1 q1) fun _ s2 q => q
theorem C7 {i : Nat} {x : Str} {e : Expr} {te : TE} {pos' : Pos} (hN : X.N.Nodup) (hi : X.N[i]? = some x) (hx : Loc X.env.scope x) (he : PE X e te) (hs : swapsWith e (some (.Name x pos')) pos.line X.env = pure false := by rfl) (hf : X.fn x = true \/ X.env.scope.names.lookup x = some .local := by first | exact .inl rfl | exact .inr rfl | assumption) :
    PS X (.Assign [.Name x pos'] e pos) (BP te (gq i)) := by
  intro pins s σ H D I h
  refine wpAny_Assign_Name (thn (he pins s σ H _ I h) fun v s1 ⟨y, H1, I1, r1, q1⟩ => ?_) hs
  exact kY I1 hN hi hx r1 (fun s2 I2 => ⟨_, H1, I2, q1⟩) hf
noncomputable def FH (i : Nat) (te : TE) (ti : TIp) : TS := fun D σ H => ∃ x, σ[i]? = some (some x) /\ te σ H fun y H1 => ti x y H1 fun z H2 => D.nx (σ.set i (some z)) H2
theorem CZ {i : Nat} {x : Str} {e : Expr} {te : TE} {op : Operator} {ti : TIp} {pos' : Pos} (hN : X.N.Nodup) (hi : X.N[i]? = some x) (hx : Loc X.env.scope x) (he : PE X e te) (ho : PIp X op ti) (hf : X.fn x = true \/ X.env.scope.names.lookup x = some .local := by first | exact .inl rfl | exact .inr rfl | assumption) :
    PS X (.AugAssign (.Name x pos') op e pos) (FH i te ti) := by
  intro pins s σ H D I h
  obtain ⟨v, e1, h⟩ := h
  obtain ⟨m, hn, hl⟩ := I.loc
  have vis : Vis X.env.scope x := by rcases hx with k | k; exact .inl k; exact .inr (.inl k)
  obtain ⟨u, r, l⟩ := hl i x v hi e1 vis
  refine wpAny_AugAssign_Name ?_
  have go : wpAny (model X.prog X.w) X.A (eval e X.env) (fun w s₂ => wpAny (model X.prog X.w) X.A (inplaceOp op u w) (fun r s₃ => wpAny (model X.prog X.w) X.A (storeName X.env x r) (fun _ => SP X pins D .next) X.xe s₃) X.xe s₂) X.xe s := by
    refine thn (he pins s σ H _ I h) fun w s1 ⟨y, H1, I1, r1, q1⟩ => ?_
    refine thn (ho pins s1 σ H1 v y u w _ I1 r r1 q1) fun z s2 ⟨zv, H2, I2, r2, q2⟩ => ?_
    exact kY I2 hN hi hx r2 (fun s3 I3 => ⟨_, H2, I3, q2⟩) hf
  rcases l with ⟨hk, hm⟩ | ⟨hk, c, hc, hcell⟩
  · exact wpAny_loadName_local I.ok.kind hk hn hm go
  · rcases hk with hk | hk
    · exact wpAny_loadName_cell I.ok.kind hk hc hcell go
    · rcases hx with k | k
      · have : X.env.scope.names.lookup x = some .free := hk
        rw [k] at this; cases this
      · have : X.env.scope.names.lookup x = some .free := hk
        rw [k] at this; cases this
noncomputable def DP (to ti te : TE) (tget : V -> V -> Hp -> VK -> Prop) (tip : TIp) (tset : uH) : TS := fun D σ H => to σ H fun o H1 => ti σ H1 fun i H2 => tget o i H2 fun x H3 => te σ H3 fun y H4 => tip x y H4 fun z H5 => tset o i z H5 fun H6 => D.nx σ H6
noncomputable def DI (X : Cx) (t : V -> V -> Hp -> VK -> Prop) : Prop :=
  ∀ (pins : List (Addr × Obj)) (s : Shared) (σ : St) (H : Hp) (o i : V) (ov iv : Value) (Q : VK), Inv X pins σ H s -> RelV o ov -> RelV i iv -> t o i H Q →
    wpAny (model X.prog X.w) X.A (getItem ov iv) (EP X pins σ Q) X.xe s
theorem AL {o i e : Expr} {to ti te : TE} {tget : V -> V -> Hp -> VK -> Prop} {tip : TIp} {tset : uH} {op : Operator} {tpos : Pos} (ho : PE X o to) (hi : PE X i ti) (hg : DI X tget) (he : PE X e te) (hp : PIp X op tip) (hs : A7 X tset)
    (ha : ∀ ov iv new, augStore i ov iv new = (do holding [new, ov, iv] (setItem ov iv new); release [new, ov, iv] []; pure .next) := by intros; rfl) : PS X (.AugAssign (.Subscript o i tpos) op e pos) (DP to ti te tget tip tset) := by
  intro pins s σ H D I h
  refine wpAny_AugAssign_SubscriptAny (thn (ho pins s σ H _ I h) fun ov s1 ⟨x1, H1, I1, r1, q1⟩ => ?_) ha
  refine thn (hi pins s1 σ H1 _ I1 q1) fun iv s2 ⟨x2, H2, I2, r2, q2⟩ => ?_
  refine thn (hg pins s2 σ H2 x1 x2 ov iv _ I2 r1 r2 q2) fun old s3 ⟨x3, H3, I3, r3, q3⟩ => ?_
  refine thn (he pins s3 σ H3 _ I3 q3) fun v s4 ⟨x4, H4, I4, r4, q4⟩ => ?_
  refine thn (hp pins s4 σ H4 x3 x4 old v _ I4 r3 r4 q4) fun new s5 ⟨x5, H5, I5, r5, q5⟩ => ?_
  exact thn (hs pins s5 σ H5 x1 x2 x5 ov iv new _ I5 r1 r2 r5 q5) fun _ s6 ⟨H6, I6, q6⟩ => ⟨σ, H6, I6, q6⟩
noncomputable def ipI (f : Int -> Int -> Int) : TIp := fun x y H Q => ∃ i j, x = .int i /\ y = .int j /\ Q (.int (f i j)) H
theorem xZ : PIp X .Add (ipI fun i j => i + j) := by
  intro pins s σ H x y v u Q I r1 r2 h
  obtain ⟨i, j, e1, e2, q⟩ := h
  subst e1; subst e2
  obtain ⟨t, rfl⟩ := r1
  obtain ⟨t', rfl⟩ := r2
  exact iadd_int ⟨.int _, H, I.tok _, ⟨_, rfl⟩, q⟩
theorem CC : PIp X .Sub (ipI fun i j => i - j) := by
  intro pins s σ H x y v u Q I r1 r2 h
  obtain ⟨i, j, e1, e2, q⟩ := h
  subst e1; subst e2
  obtain ⟨t, rfl⟩ := r1
  obtain ⟨t', rfl⟩ := r2
  exact isub_int ⟨.int _, H, I.tok _, ⟨_, rfl⟩, q⟩
end
section
variable {X : Cx} {pos : Pos}
noncomputable def C3 (c : TT) (tb : TS) : TS := fun D σ H => ∃ W : Nat -> St -> Hp -> Prop, (∃ m, W m σ H) /\ ∀ m σ H, W m σ H →
  c σ H fun b H1 => if b = true then ∃ N : St -> Hp -> Prop, (∀ σ' H', N σ' H' -> ∃ m', m' < m /\ W m' σ' H') /\ tb { D with nx := N, ct := N, bk := D.nx } σ H1 else D.nx σ H1
theorem yz {c : Expr} {body : List Stmt} {tc : TT} {tb : TS} (hp : PassesOwn (model X.prog X.w) X.A X.env X.xe) (hc : PT X c tc) (hb : PSs X body tb) : PS X (.While c body [] pos) (C3 tc tb) := by
  intro pins s σ H D I h
  obtain ⟨W, ⟨m0, w0⟩, turn⟩ := h
  refine wpAny_While (codeAny_whileLoop (fun n s' => ∃ σ' H', Inv X pins σ' H' s' /\ W n σ' H') ?_ m0 ⟨σ, H, I, w0⟩)
  rintro n s1 ⟨σ1, H1, I1, w1⟩
  refine wpAny_passesOwn hp (thn (hc pins s1 σ1 H1 _ I1 (turn n σ1 H1 w1)) fun b s2 ⟨H2, I2, q2⟩ => ?_)
  cases b with
  | true =>
    obtain ⟨N, hN, q2⟩ := q2
    rw [if_pos rfl]
    refine wpAny_passesOwn hp (thn (hb pins s2 σ1 H2 _ I2 q2) fun f s3 q3 => ?_)
    cases f with
    | next =>
      obtain ⟨σ3, H3, I3, n3⟩ := q3
      obtain ⟨m', hm, w3⟩ := hN σ3 H3 n3
      exact ⟨m', hm, σ3, H3, I3, w3⟩
    | cont =>
      obtain ⟨σ3, H3, I3, n3⟩ := q3
      obtain ⟨m', hm, w3⟩ := hN σ3 H3 n3
      exact ⟨m', hm, σ3, H3, I3, w3⟩
    | brk => exact q3
    | ret v => exact q3
  | false =>
    rw [if_neg Bool.false_ne_true]
    exact wpAny_execs_nil ⟨σ1, H2, I2, q2⟩
end
structure It where
  go : Nat -> Hp -> Prop
  yld : Nat -> Hp -> V -> Hp -> Prop
  stop : Nat -> Hp -> Prop
noncomputable def nR (X : Cx) (pins : List (Addr × Obj)) (H : Hp) (b : Addr) : Prop :=
  H b = none /\ b ≠ X.env.locals /\ b ∉ X.fs /\ (b ∈ X.ex \/ X.aM.heap.objs.size <= b) /\ (∀ x c, X.env.cells.lookup x = some c -> c ≠ b) /\ ∀ p ∈ X.pn ++ pins, p.1 ≠ b
theorem Inv.yB {X : Cx} {pins : List (Addr × Obj)} {σ : St} {H H' : Hp} {s : Shared} {b : Addr} (I : Inv X pins σ H s) (hb : s.heap.objs.size <= b) (hn : H' b = none) : nR X pins H' b := by
  refine ⟨hn, Nat.ne_of_gt (Nat.lt_of_lt_of_le I.lt hb), I.DN hb, .inr (Nat.le_trans I.sz hb), fun x c e z => ?_, fun p hp z => ?_⟩
  · obtain ⟨v, q⟩ := I.cell x c e
    exact absurd (Nat.lt_of_lt_of_le q.lt (by rw [z]; exact hb)) (Nat.lt_irrefl _)
  · exact absurd (Nat.lt_of_lt_of_le (Heap.lt_size (I.pin p hp).1) (by rw [z]; exact hb)) (Nat.lt_irrefl _)
structure Turn (P : Program) (w : World) (K : PySem.W.Frag) (tg : Expr) (J : It) (fp : List Addr) (it : Addr) (tn : Nat -> Heap -> Prop) : Prop where
  mem : it ∈ fp
  obj : ∀ i h, tn i h -> ∀ b ∈ fp, ∃ o, h.get? b = some o /\ ∀ v, o.data ≠ .cell v
  keep : ∀ i h h', tn i h -> (∀ b ∈ fp, ∀ o, h.get? b = some o -> h'.get? b = some o) -> tn i h'
  item : ∀ (X : Cx), X.prog = P -> X.w = w -> X.K = K -> X.calm = true -> ∀ (i : Nat) (pins : List (Addr × Obj)) (s : Shared) (σ : St) (H : Hp) (E : Value -> Shared -> Prop), Inv X pins σ H s -> (∀ b ∈ fp, nR X pins H b) -> tn i s.heap -> J.go i H →
    wpAny (model P w) X.A (pyNext (.ref it)) (fun r s1 => ∃ u, r = some u ∧
      wpAny (model P w) X.A (letOwnedTupleGo tg (.ref it) u) (fun _ s2 => ∃ x H', Inv X pins σ H' s2 /\ RelV x u /\ J.yld i H x H' /\ tn (i + 1) s2.heap /\ ∀ b ∈ fp, H' b = none) E s1) E s
  done : ∀ (X : Cx), X.prog = P -> X.w = w -> X.K = K -> X.calm = true -> ∀ (i : Nat) (pins : List (Addr × Obj)) (s : Shared) (σ : St) (H : Hp) (E : Value -> Shared -> Prop), Inv X pins σ H s -> (∀ b ∈ fp, nR X pins H b) -> tn i s.heap -> J.stop i H →
    wpAny (model P w) X.A (pyNext (.ref it)) (fun r s1 => r = none /\ Inv X pins σ H s1) E s
  self : ∀ (A : Around) (i : Nat) (s : Shared) (Q : Value -> Shared -> Prop) (E : Value -> Shared -> Prop), tn i s.heap -> Q (.ref it) s -> wpAny (model P w) A (pyIter (.ref it)) Q E s
noncomputable abbrev TI := St -> Hp -> (It -> Hp -> Prop) -> Prop
noncomputable def PIE (X : Cx) (pins : List (Addr × Obj)) (σ : St) (tg : Expr) (R : It -> Hp -> Prop) (itv : Value) (s2 : Shared) : Prop :=
  ∃ (it : Addr) (fp : List Addr) (tn : Nat -> Heap -> Prop) (J : It) (H' : Hp), itv = .ref it /\ Inv X pins σ H' s2 /\ Turn X.prog X.w X.K tg J fp it tn /\ tn 0 s2.heap /\ (∀ b ∈ fp, nR X pins H' b) /\ R J H'
noncomputable def PI (X : Cx) (tg iter : Expr) (wi : TI) : Prop :=
  ∀ (pins : List (Addr × Obj)) (s : Shared) (σ : St) (H : Hp) (R : It -> Hp -> Prop), Inv X pins σ H s -> wi σ H R →
    wpAny (model X.prog X.w) X.A (eval iter X.env) (fun v s1 => wpAny (model X.prog X.w) X.A (pyIter v) (PIE X pins σ tg R) X.xe s1) X.xe s
theorem xR {M : Model} {A : Around} {E : Value -> Shared -> Prop} {s : Shared} {tg : Expr} {it : Addr} {u : Value} {o : Obj} {n : String} {vs : Array Value} {Q : Unit -> Shared -> Prop} (ho : s.heap.get? it = some o) (hc : o.cls = .type n) (hd : o.data = .fields vs)
    (hn : ["enumerate", "zip", "dict_itemiterator", "dict_reverseitemiterator", "odict_iterator", "itertools.zip_longest", "itertools.pairwise"].contains n = false) (hQ : Q () s) : wpAny M A (letOwnedTupleGo tg (.ref it) u) Q E s := by
  unfold letOwnedTupleGo
  cases tg <;> first
    | exact wpAny_pure hQ
    | (cases u <;> first
        | exact wpAny_pure hQ
        | (refine wpAny_bind (wpAny_load ho ?_)
           rw [hc, hd]
           show wpAny M A (if (["enumerate", "zip", "dict_itemiterator", "dict_reverseitemiterator", "odict_iterator", "itertools.zip_longest", "itertools.pairwise"].contains n && vs[0]? == some (rawInt _)) = true then _ else _) Q E s
           rw [if_neg (by intro h; rw [hn, Bool.false_and] at h; cases h)]
           exact wpAny_pure hQ))
noncomputable def Itl (K : PySem.W.Frag) (a : Addr) : It :=
  ⟨fun i H => ∃ xs x, SqL K H a xs /\ xs[i]? = some x, fun i H x H' => H' = H /\ ∀ xs, SqL K H a xs -> xs[i]? = some x, fun i H => ∃ xs, SqL K H a xs /\ xs.length <= i⟩
noncomputable def Itt (K : PySem.W.Frag) (a : Addr) : It :=
  ⟨fun i H => ∃ xs x, SqT K H a xs /\ xs[i]? = some x, fun i H x H' => H' = H /\ ∀ xs, SqT K H a xs -> xs[i]? = some x, fun i H => ∃ xs, SqT K H a xs /\ xs.length <= i⟩
noncomputable def Itr (lo : Int) (n : Nat) : It := ⟨fun i _ => i < n, fun i H x H' => H' = H /\ x = .int (lo + i), fun i _ => n <= i⟩
theorem v7 {P : Program} {w : World} {K : PySem.W.Frag} {tg : Expr} (a it : Addr) : Turn P w K tg (Itl K a) [it] it (fun i h => h.IsListIter it a i) where
  mem := by simp
  obj := fun i h st b hb => by
    have e : b = it := by simpa using hb
    subst e
    obtain ⟨o, e, c, d⟩ := st
    exact ⟨o, e, fun v z => by rw [d] at z; cases z⟩
  keep := fun i h h' st k => st.at fun o e => k it (by simp) o e
  item := by
    intro X hP hw hK hc i pins s σ H E I hf st hg
    subst hP hw hK
    obtain ⟨xs, x, hq, hx⟩ := hg
    obtain ⟨its, rv, p, hz⟩ := I.list hq
    obtain ⟨u, hu, ru⟩ := rv.get hx
    obtain ⟨f0, f1, f2, f3, f4, f5⟩ := hf it (by simp)
    refine wpAny_pyNext_list_item st p.isList (x := u) (by simpa using hu) fun h' st' sb => ?_
    have I1 : Inv X pins σ H { s with heap := h' } := I.turned (t' := s.toks) (fun b o hb e => (sb.2 b hb).trans e) f0 f1 f3 f4 f5
    obtain ⟨o, e, c, d⟩ := id st'
    exact ⟨u, rfl, xR (s := { s with heap := h' }) e c d (by decide) ⟨x, H, I1, ru, ⟨rfl, fun ys hy => by rw [I.jg hy hq]; exact hx⟩, st', fun b hb => (hf b hb).1⟩⟩
  done := by
    intro X hP hw hK hc i pins s σ H E I hf st hg
    subst hP hw hK
    obtain ⟨xs, hq, hx⟩ := hg
    obtain ⟨its, rv, p, hz⟩ := I.list hq
    obtain ⟨f0, f1, f2, f3, f4, f5⟩ := hf it (by simp)
    have hl := rv.length
    exact wpAny_pyNext_list_end (I.ok.hd hc) st p.isList (by simp; omega) fun h' eb => ⟨rfl, I.turned (t' := s.toks) (fun b o hb e => eb b o hb e) f0 f1 f3 f4 f5⟩
  self := fun _ _ _ _ _ st h => wpAny_pyIter_listiter st h
theorem uu {P : Program} {w : World} {K : PySem.W.Frag} {tg : Expr} (a it : Addr) : Turn P w K tg (Itt K a) [it] it (fun i h => h.IsTupleIter it a i) where
  mem := by simp
  obj := fun i h st b hb => by
    have e : b = it := by simpa using hb
    subst e
    obtain ⟨o, e, c, d⟩ := st
    exact ⟨o, e, fun v z => by rw [d] at z; cases z⟩
  keep := fun i h h' st k => st.at fun o e => k it (by simp) o e
  item := by
    intro X hP hw hK hc i pins s σ H E I hf st hg
    subst hP hw hK
    obtain ⟨xs, x, hq, hx⟩ := hg
    obtain ⟨its, rv, p, hz⟩ := I.tuple hq
    obtain ⟨u, hu, ru⟩ := rv.get hx
    obtain ⟨f0, f1, f2, f3, f4, f5⟩ := hf it (by simp)
    refine wpAny_pyNext_tuple_item st (show s.heap.IsTuple a its.toArray from p) (x := u) (by simpa using hu) fun h' st' sb => ?_
    have I1 : Inv X pins σ H { s with heap := h' } := I.turned (t' := s.toks) (fun b o hb e => (sb.2 b hb).trans e) f0 f1 f3 f4 f5
    obtain ⟨o, e, c, d⟩ := id st'
    exact ⟨u, rfl, xR (s := { s with heap := h' }) e c d (by decide) ⟨x, H, I1, ru, ⟨rfl, fun ys hy => by rw [I.g_ hy hq]; exact hx⟩, st', fun b hb => (hf b hb).1⟩⟩
  done := by
    intro X hP hw hK hc i pins s σ H E I hf st hg
    subst hP hw hK
    obtain ⟨xs, hq, hx⟩ := hg
    obtain ⟨its, rv, p, hz⟩ := I.tuple hq
    obtain ⟨f0, f1, f2, f3, f4, f5⟩ := hf it (by simp)
    have hl := rv.length
    exact wpAny_pyNext_tuple_end (I.ok.hd hc) st (show s.heap.IsTuple a its.toArray from p) (by simp; omega) fun h' eb => ⟨rfl, I.turned (t' := s.toks) (fun b o hb e => eb b o hb e) f0 f1 f3 f4 f5⟩
  self := fun _ _ _ _ _ st h => wpAny_pyIter_tupleiter st h
theorem ue {P : Program} {w : World} {K : PySem.W.Frag} {tg : Expr} (it : Addr) (lo : Int) (n : Nat) : Turn P w K tg (Itr lo n) [it] it (fun i h => IsRangeIter h it (lo + (i : Nat) * 1) ((n : Int) - (i : Nat)) 1) where
  mem := by simp
  obj := fun i h st b hb => by
    have e : b = it := by simpa using hb
    subst e
    exact ⟨_, st, fun v z => by
      have z' : Data.fields _ = Data.cell v := z
      cases z'⟩
  keep := fun i h h' st k => k it (by simp) _ st
  item := by
    intro X hP hw hK hc i pins s σ H E I hf st hg
    subst hP hw hK
    obtain ⟨f0, f1, f2, f3, f4, f5⟩ := hf it (by simp)
    have W := Walks.range (prog := X.prog) (w := X.w) (I.ok.hd hc) it lo 1 n
    refine W.item i s _ _ hg st fun v h' tk hv st' kk => ?_
    obtain ⟨t, rfl⟩ := hv
    have I1 : Inv X pins σ H { s with heap := h', toks := tk } := I.turned (fun b o hb e => kk b o (by simpa using hb) e) f0 f1 f3 f4 f5
    refine ⟨_, rfl, xR (s := { s with heap := h', toks := tk }) (n := "range_iterator") st' rfl rfl (by decide) ⟨.int (lo + i), H, I1, ⟨t, ?_⟩, ⟨rfl, rfl⟩, st', fun b hb => (hf b hb).1⟩⟩
    rw [Int.mul_one]
  done := by
    intro X hP hw hK hc i pins s σ H E I hf st hg
    subst hP hw hK
    obtain ⟨f0, f1, f2, f3, f4, f5⟩ := hf it (by simp)
    exact wpAny_pyNext_range_end (I.ok.hd hc) st (by have : n <= i := hg; omega) fun h' eb => ⟨rfl, I.turned (t' := s.toks) (fun b o hb e => eb b o hb e) f0 f1 f3 f4 f5⟩
  self := fun _ _ _ _ _ st h => wpAny_pyIter_rangeiter st h
section
variable {X : Cx} {tg : Expr}
theorem tm {pins : List (Addr × Obj)} {σ : St} {H : Hp} {s : Shared} {R : It -> Hp -> Prop} {E : Value -> Shared -> Prop} {lo hi : Int} {t u v : Tok} {tk : Nat} (I : Inv X pins σ H s) (h1 : -(2 ^ 62) <= lo) (h2 : lo < 2 ^ 62) (h3 : -(2 ^ 62) <= hi) (h4 : hi < 2 ^ 62)
    (q : R (Itr lo (hi - lo).toNat) H) : wpAny (model X.prog X.w) X.A (pyIter (.ref s.heap.objs.size)) (PIE X pins σ tg R) E { s with heap := s.heap.push { cls := .type "range", data := .fields #[.int lo t, .int hi u, .int 1 v] }, toks := tk } := by
  refine wpAny_pyIter_range (IsRange.new ..) (small_one h1 h2 h3 h4) ?_
  have I1 : Inv X pins σ H { s with heap := s.heap.push { cls := .type "range", data := .fields #[.int lo t, .int hi u, .int 1 v] }, toks := tk } := I.kept fun b o e => Heap.get?_push_of_some _ e
  refine ⟨(s.heap.push { cls := .type "range", data := .fields #[.int lo t, .int hi u, .int 1 v] }).objs.size, [(s.heap.push { cls := .type "range", data := .fields #[.int lo t, .int hi u, .int 1 v] }).objs.size], _, _, H, rfl,
    I1.kept (t' := tk) fun b o e => Heap.get?_push_of_some _ e, ue _ lo (hi - lo).toNat, ?_, fun b hb => ?_, q⟩
  · have e1 : lo + ((0 : Nat) : Int) * 1 = lo := by simp
    have e2 : (((hi - lo).toNat : Nat) : Int) - ((0 : Nat) : Int) = Builtin.Range.rangeSize lo hi 1 := by rw [rangeSize_one]; split <;> omega
    show IsRangeIter _ _ (lo + ((0 : Nat) : Int) * 1) ((((hi - lo).toNat : Nat) : Int) - ((0 : Nat) : Int)) 1
    rw [e1, e2]
    exact Heap.get?_push_size _ rfl
  · have e : b = (s.heap.push { cls := .type "range", data := .fields #[.int lo t, .int hi u, .int 1 v] }).objs.size := by simpa using hb
    subst e
    exact I1.yB (Nat.le_refl _) (I1.hok.fresh (Nat.le_refl _))
noncomputable def DA (ta : TA) : TI := fun σ H R => ta σ H fun vs H1 => ∃ j : Int, vs = [.int j] /\ -(2 ^ 62) <= j /\ j < 2 ^ 62 /\ R (Itr 0 j.toNat) H1
noncomputable def EI (ta : TA) : TI := fun σ H R => ta σ H fun vs H1 => ∃ i j : Int, vs = [.int i, .int j] /\ (-(2 ^ 62) <= i /\ i < 2 ^ 62 /\ -(2 ^ 62) <= j /\ j < 2 ^ 62) /\ R (Itr i (j - i).toNat) H1
theorem xb {a : Expr} {ta : TA} {p pos : Pos} (hg : Gl X "range") (hm : X.mg "range" = none) (ha : PA X [a] ta) (hs : starEach [a] X.env = [(false, eval a X.env)] := by rfl) : PI X tg (.Call (.Name "range" p) [a] [] pos) (DA ta) := by
  intro pins s σ H R I h
  refine Call_ (j5 I hg hm boot_range (PyProof.Rows.callWith_type1 (thn (ha pos pins s σ H _ I h) fun us s1 ⟨vs, H1, I1, r1, q1⟩ => ?_) hs rfl))
  obtain ⟨j, e, q1, q2, q⟩ := q1
  subst e
  cases r1 with
  | cons r rr =>
    cases rr
    obtain ⟨t, rfl⟩ := r
    exact call_range_1 (tm I1 (by omega) (by omega) q1 q2 (by simpa using q))
theorem wW {a b : Expr} {ta : TA} {p pos : Pos} (hg : Gl X "range") (hm : X.mg "range" = none) (ha : PA X [a, b] ta) (hs : starEach [a, b] X.env = [(false, eval a X.env), (false, eval b X.env)] := by rfl) (hs2 : starEach [b] X.env = [(false, eval b X.env)] := by rfl) :
    PI X tg (.Call (.Name "range" p) [a, b] [] pos) (EI ta) := by
  intro pins s σ H R I h
  refine Call_ (j5 I hg hm boot_range (PyProof.Rows.callWith_type1 (thn (ha pos pins s σ H _ I h) fun us s1 ⟨vs, H1, I1, r1, q1⟩ => ?_) (by rw [hs, hs2]) (by rw [hs2]; rfl)))
  obtain ⟨i, j, e, ⟨q1, q2, q3, q4⟩, q⟩ := q1
  subst e
  cases r1 with
  | cons r rr =>
    cases rr with
    | cons r' rr =>
      cases rr
      obtain ⟨t, rfl⟩ := r
      obtain ⟨t', rfl⟩ := r'
      exact call_range_2 (tm I1 q1 q2 q3 q4 q)
noncomputable def FG (wi : TI) (g : TG) (tb : TS) : TS := fun D σ H => wi σ H fun J H1 => ∃ W : Nat -> Nat -> St -> Hp -> Prop, (∃ m, W 0 m σ H1) /\ ∀ i m σ H, W i m σ H →
  (J.stop i H /\ D.nx σ H) \/ (J.go i H /\ ∃ N : St -> Hp -> Prop, (∀ σ' H', N σ' H' -> ∃ m', m' < m /\ W (i + 1) m' σ' H') /\ ∀ x H', J.yld i H x H' -> g x σ H' fun σ2 H2 => tb { D with nx := N, ct := N, bk := D.nx } σ2 H2)
noncomputable def n_ (fp : List Addr) (h : Heap) : List (Addr × Obj) := fp.filterMap fun b => (h.get? b).map fun o => (b, o)
theorem ir {fp : List Addr} {h : Heap} {b : Addr} {o : Obj} (hb : b ∈ fp) (e : h.get? b = some o) : (b, o) ∈ n_ fp h := List.mem_filterMap.mpr ⟨b, hb, by rw [e]; rfl⟩
theorem wd {fp : List Addr} {h : Heap} {p : Addr × Obj} (hp : p ∈ n_ fp h) : p.1 ∈ fp /\ h.get? p.1 = some p.2 := by
  obtain ⟨b, hb, e⟩ := List.mem_filterMap.mp hp
  cases q : h.get? b with
  | none => rw [q] at e; cases e
  | some o =>
    rw [q] at e
    have e' : (b, o) = p := Option.some.inj e
    subst e'
    exact ⟨hb, q⟩
theorem Inv.pinned {pins : List (Addr × Obj)} {σ : St} {H : Hp} {s : Shared} {fp : List Addr} (I : Inv X pins σ H s) (hf : ∀ b ∈ fp, nR X pins H b) (ho : ∀ b ∈ fp, ∃ o, s.heap.get? b = some o /\ ∀ v, o.data ≠ .cell v) : Inv X (pins ++ n_ fp s.heap) σ H s :=
  I.m_ fun p hp => (List.mem_append.mp hp).elim (fun z => I.pin p (List.mem_append_right _ z)) fun z => by
    obtain ⟨hb, e⟩ := wd z
    obtain ⟨f0, f1, f2, _⟩ := hf p.1 hb
    obtain ⟨o, e', d⟩ := ho p.1 hb
    rw [e] at e'; cases e'
    exact ⟨e, f0, f1, f2, d⟩
theorem Inv.k7 {pins pl : List (Addr × Obj)} {σ : St} {H : Hp} {s : Shared} (I : Inv X (pins ++ pl) σ H s) : Inv X pins σ H s := I.m_ fun p hp => I.pin p (List.mem_append_right _ (List.mem_append_left _ hp))
theorem BW {iter : Expr} {body : List Stmt} {wi : TI} {g : TG} {tb : TS} {pos : Pos} (hp : PassesOwn (model X.prog X.w) X.A X.env X.xe) (hc : X.calm = true) (hi : PI X tg iter wi) (hg : PG X tg g) (hb : PSs X body tb)
    (hs : ∀ x, foldedSetIterable iter X.env x = pure x := by intro _; rfl) : PS X (.For tg iter body [] pos) (FG wi g tb) := by
  intro pins s σ H D I h
  refine wpAny_For (thn (hi pins s σ H _ I h) fun v s1 h1 => thn h1 fun itv s2 h2 => ?_) hs
  obtain ⟨it, fp, tn, J, H2, e, I2, T, st2, f2, W, ⟨m0, w0⟩, turn⟩ := h2
  subst e
  -- what stays true of the iterator's objects through the loop
  have stat : ∀ {H' : Hp}, (∀ b ∈ fp, H' b = none) -> ∀ b ∈ fp, nR X pins H' b := fun hn b hb => ⟨hn b hb, (f2 b hb).2⟩
  refine codeAny_forLoop_any (fun n s' => ∃ i σ' H', Inv X pins σ' H' s' /\ tn i s'.heap /\ (∀ b ∈ fp, H' b = none) /\ W i n σ' H') ?_ m0 ⟨0, σ, H2, I2, st2, fun b hb => (f2 b hb).1, w0⟩
  rintro n s3 ⟨i, σ3, H3, I3, st3, fr3, w3⟩
  rcases turn i n σ3 H3 w3 with ⟨stop, qn⟩ | ⟨go, N, hN, step⟩
  · refine wpAny_passesOwn hp (thn (T.done X rfl rfl rfl hc i pins s3 σ3 H3 X.xe I3 (stat fr3) st3 stop) fun r s4 ⟨hr, I4⟩ => ?_)
    subst hr
    exact wpAny_execs_nil ⟨σ3, H3, I4, qn⟩
  · refine wpAny_passesOwn hp (thn (T.item X rfl rfl rfl hc i pins s3 σ3 H3 X.xe I3 (stat fr3) st3 go) fun r s4 ⟨u, hr, h4⟩ => ?_)
    subst hr
    refine wpAny_passesOwn hp (thn h4 fun _ s5 ⟨x, H5, I5, r5, y5, st5, fr5⟩ => ?_)
    have I5' := I5.pinned (stat fr5) (T.obj _ _ st5)
    refine wpAny_passesOwn hp (thn (hg _ s5 σ3 H5 x u _ I5' r5 (step x H5 y5)) fun _ s6 ⟨σ6, H6, I6, q6⟩ => ?_)
    refine wpAny_passesOwn hp (thn (hb _ s6 σ6 H6 _ I6 q6) fun f s7 q7 => ?_)
    have again : ∀ {σ7 : St} {H7 : Hp}, Inv X (pins ++ n_ fp s5.heap) σ7 H7 s7 -> N σ7 H7 -> ∃ m, m < n /\ ∃ i σ' H', Inv X pins σ' H' s7 /\ tn i s7.heap /\ (∀ b ∈ fp, H' b = none) /\ W i m σ' H' := fun {σ7 H7} I7 n7 => by
      obtain ⟨m', hm, w7⟩ := hN σ7 H7 n7
      refine ⟨m', hm, i + 1, σ7, H7, I7.k7, T.keep _ _ _ st5 fun b hb o e => (I7.pin (b, o) (List.mem_append_right _ (List.mem_append_right _ (ir hb e)))).1, fun b hb => ?_, w7⟩
      obtain ⟨o, e, d⟩ := T.obj _ _ st5 b hb
      exact (I7.pin (b, o) (List.mem_append_right _ (List.mem_append_right _ (ir hb e)))).2.1
    cases f with
    | next => obtain ⟨σ7, H7, I7, n7⟩ := q7; exact again I7 n7
    | cont => obtain ⟨σ7, H7, I7, n7⟩ := q7; exact again I7 n7
    | brk => obtain ⟨σ7, H7, I7, q7⟩ := q7; exact ⟨σ7, H7, I7.k7, q7⟩
    | ret v => obtain ⟨x7, σ7, H7, I7, r7, q7⟩ := q7; exact ⟨x7, σ7, H7, I7.k7, r7, q7⟩
end
noncomputable abbrev R2 := V -> V -> Hp -> VK -> Prop
noncomputable def OpR (X : Cx) (f : Value -> Value -> Sem Value) (r : R2) : Prop :=
  ∀ (pins : List (Addr × Obj)) (s : Shared) (σ : St) (H : Hp) (x y : V) (v u : Value) (Q : VK), Inv X pins σ H s -> RelV x v -> RelV y u -> r x y H Q →
    wpAny (model X.prog X.w) X.A (f v u) (EP X pins σ Q) X.xe s
noncomputable def UnR (X : Cx) (f : Value -> Sem Value) (r : V -> Hp -> VK -> Prop) : Prop :=
  ∀ (pins : List (Addr × Obj)) (s : Shared) (σ : St) (H : Hp) (x : V) (v : Value) (Q : VK), Inv X pins σ H s -> RelV x v -> r x H Q →
    wpAny (model X.prog X.w) X.A (f v) (EP X pins σ Q) X.xe s
noncomputable def dj (X : Cx) (f : Value) (r : List V -> Hp -> VK -> Prop) : Prop :=
  ∀ (pins : List (Addr × Obj)) (s : Shared) (σ : St) (H : Hp) (xs : List V) (us : List Value) (Q : VK), Inv X pins σ H s -> Vals xs us -> r xs H Q →
    wpAny (model X.prog X.w) X.A (call f us) (EP X pins σ Q) X.xe s
noncomputable def F6 (X : Cx) (r : V -> Hp -> (Bool -> Hp -> Prop) -> Prop) : Prop :=
  ∀ (pins : List (Addr × Obj)) (s : Shared) (σ : St) (H : Hp) (x : V) (v : Value) (Q : Bool -> Hp -> Prop), Inv X pins σ H s -> RelV x v -> r x H Q →
    wpAny (model X.prog X.w) X.A (truthy v) (TP X pins σ Q) X.xe s
noncomputable def tOp (r : R2) (ta tb : TE) : TE := fun σ H Q => ta σ H fun x H1 => tb σ H1 fun y H2 => r x y H2 Q
noncomputable def tUn (r : V -> Hp -> VK -> Prop) (ta : TE) : TE := fun σ H Q => ta σ H fun x H1 => r x H1 Q
noncomputable def rI (C : Int -> Int -> Prop) (g : Int -> Int -> V) : R2 := fun x y H Q => ∃ i j, x = .int i /\ y = .int j /\ C i j /\ Q (g i j) H
noncomputable def rI0 (g : Int -> Int -> V) : R2 := fun x y H Q => ∃ i j, x = .int i /\ y = .int j /\ Q (g i j) H
noncomputable def rU (g : Int -> V) : V -> Hp -> VK -> Prop := fun x H Q => ∃ i, x = .int i /\ Q (g i) H
section
variable {X : Cx} {a b c : Expr} {ta tb tc : TE} {pos : Pos}
theorem CU (ha : PE X a ta) (hb : PE X b tb) {pins : List (Addr × Obj)} {s : Shared} {σ : St} {H : Hp} {R : V -> V -> Hp -> Prop} (I : Inv X pins σ H s)
    (h : ta σ H fun x H1 => tb σ H1 fun y H2 => R x y H2) {Q : Value -> Shared -> Prop} {f : Value -> Value -> Sem Value}
    (hf : ∀ v u s2 x y H2, Inv X pins σ H2 s2 -> RelV x v -> RelV y u -> R x y H2 -> wpAny (model X.prog X.w) X.A (f v u) Q X.xe s2) :
    wpAny (model X.prog X.w) X.A (eval a X.env) (fun v s₁ => wpAny (model X.prog X.w) X.A (eval b X.env) (fun u s₂ => wpAny (model X.prog X.w) X.A (f v u) Q X.xe s₂) X.xe s₁) X.xe s := by
  refine thn (ha pins s σ H _ I h) fun v s1 ⟨x, H1, I1, r1, q1⟩ => ?_
  refine thn (hb pins s1 σ H1 _ I1 q1) fun u s2 ⟨y, H2, I2, r2, q2⟩ => ?_
  exact hf v u s2 x y H2 I2 r1 r2 q2
theorem EA {op : Operator} {r : R2} (ho : OpR X (binaryOp op) r) (ha : PE X a ta) (hb : PE X b tb) : PE X (.BinOp a op b pos) (tOp r ta tb) := by
  intro pins s σ H Q I h
  exact wpAny_BinOp (CU ha hb I h fun v u s2 x y H2 I2 rx ry q => ho pins s2 σ H2 x y v u Q I2 rx ry q)
theorem EG {op : UnaryOp} {r : V -> Hp -> VK -> Prop} (ho : UnR X (unaryOp op) r) (ha : PE X a ta) : PE X (.UnaryOp op a pos) (tUn r ta) := by
  intro pins s σ H Q I h
  exact UnaryOp_ (thn (ha pins s σ H _ I h) fun v s1 ⟨x, H1, I1, r1, q1⟩ => ho pins s1 σ H1 x v Q I1 r1 q1)
theorem opI {f : Value -> Value -> Sem Value} {C : Int -> Int -> Prop} {g : Int -> Int -> Int}
    (rule : ∀ (i j : Int) (t u : Tok) (s : Shared) (Q : Value -> Shared -> Prop) (E : Value -> Shared -> Prop), C i j -> Q (.int (g i j) s.toks) { s with toks := s.toks + 1 } -> wpAny (model X.prog X.w) X.A (f (.int i t) (.int j u)) Q E s) :
    OpR X f (rI C fun i j => .int (g i j)) := by
  intro pins s σ H x y v u Q I rx ry h
  obtain ⟨i, j, rfl, rfl, hc, q⟩ := h
  obtain ⟨t, rfl⟩ := rx
  obtain ⟨t', rfl⟩ := ry
  exact rule i j t t' s _ _ hc ⟨.int (g i j), H, I.tok _, ⟨_, rfl⟩, q⟩
theorem D7 {f : Value -> Value -> Sem Value} {g : Int -> Int -> Int}
    (rule : ∀ (i j : Int) (t u : Tok) (s : Shared) (Q : Value -> Shared -> Prop) (E : Value -> Shared -> Prop), Q (.int (g i j) s.toks) { s with toks := s.toks + 1 } -> wpAny (model X.prog X.w) X.A (f (.int i t) (.int j u)) Q E s) :
    OpR X f (rI0 fun i j => .int (g i j)) := by
  intro pins s σ H x y v u Q I rx ry h
  obtain ⟨i, j, rfl, rfl, q⟩ := h
  obtain ⟨t, rfl⟩ := rx
  obtain ⟨t', rfl⟩ := ry
  exact rule i j t t' s _ _ ⟨.int (g i j), H, I.tok _, ⟨_, rfl⟩, q⟩
theorem Ar {f : Value -> Value -> Sem Value} {g : Int -> Int -> Bool}
    (rule : ∀ (i j : Int) (t u : Tok) (s : Shared) (Q : Value -> Shared -> Prop) (E : Value -> Shared -> Prop), Q (.bool (g i j)) s -> wpAny (model X.prog X.w) X.A (f (.int i t) (.int j u)) Q E s) :
    OpR X f (rI0 fun i j => .bl (g i j)) := by
  intro pins s σ H x y v u Q I rx ry h
  obtain ⟨i, j, rfl, rfl, q⟩ := h
  obtain ⟨t, rfl⟩ := rx
  obtain ⟨t', rfl⟩ := ry
  exact rule i j t t' s _ _ ⟨.bl (g i j), H, I, rfl, q⟩
theorem CF : OpR X (binaryOp .Add) (rI0 fun i j => .int (i + j)) := D7 fun _ _ _ _ _ _ _ q => add_int q
theorem eO : OpR X (binaryOp .Sub) (rI0 fun i j => .int (i - j)) := D7 fun _ _ _ _ _ _ _ q => sub_int q
theorem nc : OpR X (binaryOp .Mod) (rI (fun _ j => 0 < j) fun i j => .int (i % j)) := opI fun i j _ _ _ _ _ hc q => by
  have h1 : (0 : Int) < j := hc
  exact mod_int' (by omega) (by rw [Int.fmod_eq_emod_of_nonneg i (by omega)]; exact q)
theorem unI {f : Value -> Sem Value} {g : Int -> Int}
    (rule : ∀ (i : Int) (t : Tok) (s : Shared) (Q : Value -> Shared -> Prop) (E : Value -> Shared -> Prop), Q (.int (g i) s.toks) { s with toks := s.toks + 1 } -> wpAny (model X.prog X.w) X.A (f (.int i t)) Q E s) :
    UnR X f (rU fun i => .int (g i)) := by
  intro pins s σ H x v Q I rx h
  obtain ⟨i, rfl, q⟩ := h
  obtain ⟨t, rfl⟩ := rx
  exact rule i t s _ _ ⟨.int (g i), H, I.tok _, ⟨_, rfl⟩, q⟩
theorem oz : UnR X (unaryOp .USub) (rU fun i => .int (-i)) := unI fun _ _ _ _ _ q => neg_int q
end
section
variable {X : Cx} {a b c : Expr} {ta tb tc : TE} {pos : Pos}
theorem zh {pins : List (Addr × Obj)} {σ : St} {H : Hp} {s : Shared} {Q : VK} {k k' : Bool} (I : Inv X pins σ H s) (q : Q (.bl k) H) (e : k = k') : EP X pins σ Q (.bool k') s := by
  subst e
  exact ⟨.bl k, H, I, rfl, q⟩
theorem nW : OpR X (compareOp .Lt) (rI0 fun i j => .bl (decide (i < j))) := Ar fun _ _ _ _ _ _ _ q => lt_int q
theorem sR : OpR X (compareOp .LtE) (rI0 fun i j => .bl (decide (i <= j))) := Ar fun _ _ _ _ _ _ _ q => le_int q
theorem qm : OpR X (compareOp .Gt) (rI0 fun i j => .bl (decide (j < i))) := Ar fun _ _ _ _ _ _ _ q => gt_int q
theorem Ei : OpR X (compareOp .GtE) (rI0 fun i j => .bl (decide (j <= i))) := Ar fun _ _ _ _ _ _ _ q => ge_int q
theorem Ca : OpR X (compareOp .Is) (fun x y H Q => y = .non /\ Q (.bl (decide (x = .non))) H) := by
  intro pins s σ H x y v u Q I rx ry h
  obtain ⟨rfl, q⟩ := h
  cases ry
  refine is_none_gen (zh I q ?_)
  cases x <;> first
    | (cases rx; rfl)
    | (obtain ⟨t, rfl⟩ := rx; rfl)
theorem z_ : OpR X (compareOp .IsNot) (fun x y H Q => y = .non /\ Q (.bl (!decide (x = .non))) H) := by
  intro pins s σ H x y v u Q I rx ry h
  obtain ⟨rfl, q⟩ := h
  cases ry
  refine isnot_none_gen (zh I q ?_)
  cases x <;> first
    | (cases rx; rfl)
    | (obtain ⟨t, rfl⟩ := rx; rfl)
theorem bM (b : Expr) {op : CmpOp} (h : op ≠ .In := by decide) (h2 : op ≠ .NotIn := by decide) : behindInMarks op b = false := by
  have e1 : (op == CmpOp.In) = false := by cases op <;> first | rfl | exact absurd rfl h
  have e2 : (op == CmpOp.NotIn) = false := by cases op <;> first | rfl | exact absurd rfl h2
  cases b <;> simp [behindInMarks, e1, e2]
theorem Au {op : CmpOp} {r : R2} (ho : OpR X (compareOp op) r) (ha : PE X a ta) (hb : PE X b tb) (hm : behindInMarks op b = false) : PE X (.Compare a [op] [b] pos) (tOp r ta tb) := by
  intro pins s σ H Q I h
  exact wpAny_Compare1 (CU ha hb I h fun v u s2 x y H2 I2 rx ry q => ho pins s2 σ H2 x y v u Q I2 rx ry q) hm
noncomputable def xE (t : TE) : TT := fun σ H Q => t σ H fun x H' => ∃ k, x = .bl k /\ Q k H'
theorem Ap {op : CmpOp} {r : R2} (ho : OpR X (compareOp op) r) (ha : PE X a ta) (hb : PE X b tb) (hm : behindInMarks op b = false) : PT X (.Compare a [op] [b] pos) (xE (tOp r ta tb)) := by
  intro pins s σ H Q I h
  refine wpAny_isTrue_Compare1 (thn (ha pins s σ H _ I h) fun v s1 ⟨x, H1, I1, r1, q1⟩ => thn (hb pins s1 σ H1 _ I1 q1) fun u s2 ⟨y, H2, I2, r2, q2⟩ =>
    thn (ho pins s2 σ H2 x y v u _ I2 r1 r2 q2) fun c s3 ⟨z, H3, I3, r3, k, e, q3⟩ => ?_) hm
  subst e
  cases r3
  exact wpAny_truthy_bool ⟨H3, I3, q3⟩
noncomputable def uh (r r' : R2) (ta tb tc : TE) : TE := fun σ H Q => ta σ H fun x H1 => tb σ H1 fun y H2 => r x y H2 fun z H3 => ∃ k, z = .bl k ∧
  (if k = true then tc σ H3 fun w' H4 => r' y w' H4 Q else Q (.bl false) H3)
theorem xJ {op op' : CmpOp} {r r' : R2} (ho : OpR X (compareOp op) r) (ho' : OpR X (compareOp op') r') (ha : PE X a ta) (hb : PE X b tb) (hc : PE X c tc)
    (hm : lastMarks [op, op'] [b, c] = false := by with_unfolding_all rfl) : PE X (.Compare a [op, op'] [b, c] pos) (uh r r' ta tb tc) := by
  intro pins s σ H Q I h
  refine Compare_chain (thn (ha pins s σ H _ I h) fun v s1 ⟨x, H1, I1, r1, q1⟩ => chain_link (thn (hb pins s1 σ H1 _ I1 q1) fun u s2 ⟨y, H2, I2, r2, q2⟩ =>
    thn (ho pins s2 σ H2 x y v u _ I2 r1 r2 q2) fun d s3 ⟨z, H3, I3, r3, k, e, q3⟩ => ?_)) hm
  subst e
  cases r3
  refine wpAny_truthy_bool ?_
  cases k with
  | false => exact ite_ff ⟨.bl false, H3, I3, rfl, q3⟩
  | true => exact ite_tt (chain_last (thn (hc pins s3 σ H3 _ I3 q3) fun w' s4 ⟨z', H4, I4, r4, q4⟩ => ho' pins s4 σ H4 y z' u w' Q I4 r2 r4 q4))
theorem yu {op op' : CmpOp} {r r' : R2} (ho : OpR X (compareOp op) r) (ho' : OpR X (compareOp op') r') (ha : PE X a ta) (hb : PE X b tb) (hc : PE X c tc)
    (hm : lastMarks [op, op'] [b, c] = false := by with_unfolding_all rfl) : PT X (.Compare a [op, op'] [b, c] pos) (xE (uh r r' ta tb tc)) := by
  intro pins s σ H Q I h
  refine isTrue_chain (thn (ha pins s σ H _ I h) fun v s1 ⟨x, H1, I1, r1, q1⟩ => test_link (thn (hb pins s1 σ H1 _ I1 q1) fun u s2 ⟨y, H2, I2, r2, q2⟩ =>
    thn (ho pins s2 σ H2 x y v u _ I2 r1 r2 q2) fun d s3 ⟨z, H3, I3, r3, k, e, q3⟩ => ?_)) hm
  subst e
  cases r3
  refine wpAny_truthy_bool ?_
  cases k with
  | false =>
    obtain ⟨k', e', q'⟩ := q3
    cases e'
    exact ite_ff ⟨H3, I3, q'⟩
  | true =>
    refine ite_tt (test_last (thn (hc pins s3 σ H3 _ I3 q3) fun w' s4 ⟨z', H4, I4, r4, q4⟩ => thn (ho' pins s4 σ H4 y z' u w' _ I4 r2 r4 q4) fun d' s5 ⟨z2, H5, I5, r5, k2, e2, q5⟩ => ?_))
    subst e2
    cases r5
    exact wpAny_truthy_bool ⟨H5, I5, q5⟩
noncomputable def AG (K : PySem.W.Frag) (x : V) (H : Hp) (k : Bool) : Prop :=
  match x with
  | .non => k = false
  | .bl b => k = b
  | .int i => k = (i != 0)
  | .str y => y.length <= sizeLine /\ k = ((y.length : Int) != 0)
  | .byt y => y.size <= sizeLine /\ k = ((y.size : Int) != 0)
  | .ref p => (∃ xs, SqL K H p xs /\ k = !xs.isEmpty) \/ (∃ xs, SqT K H p xs /\ k = !xs.isEmpty) \/ ∃ kvs, H p = some (.dK kvs) /\ k = !kvs.isEmpty
  | _ => False
theorem uG {κ : Type} {kvs : List (κ × V)} {vs : List (κ × Value)} (r : KV kvs vs) : (!vs.isEmpty) = !kvs.isEmpty := by
  cases r <;> rfl
theorem oh {xs : List V} {its : List Value} (r : Vals xs its) : (!its.toArray.isEmpty) = !xs.isEmpty := by
  cases r <;> simp
theorem jd : (sizeLine : Nat) < 2 ^ 63 := by rw [sizeLine_eq]; decide
theorem B7 : F6 X (fun x H Q => ∃ k, AG X.K x H k /\ Q k H) := by
  intro pins s σ H x v Q I rx h
  obtain ⟨k, e, q⟩ := h
  have hl := jd
  have hs : sizeLine = 16777216 := sizeLine_eq
  cases x with
  | non =>
    cases rx
    have e' : k = false := e
    subst e'
    exact truthy_none ⟨H, I, q⟩
  | bl b =>
    cases rx
    have e' : k = b := e
    subst e'
    exact wpAny_truthy_bool ⟨H, I, q⟩
  | int i =>
    obtain ⟨t, rfl⟩ := rx
    have e' : k = (i != 0) := e
    subst e'
    exact PySem.P.truthy_int ⟨H, I, q⟩
  | str y =>
    obtain ⟨t, rfl⟩ := rx
    obtain ⟨hy, e'⟩ : y.length <= sizeLine /\ k = ((y.length : Int) != 0) := e
    subst e'
    exact PySem.P.truthy_str (by omega) ⟨H, I.tok _, q⟩
  | byt y =>
    obtain ⟨t, rfl⟩ := rx
    obtain ⟨hy, e'⟩ : y.size <= sizeLine /\ k = ((y.size : Int) != 0) := e
    subst e'
    exact PySem.W.truthy_bytes (by omega) ⟨H, I.tok _, q⟩
  | ref p =>
    cases rx
    have e' : (∃ xs, SqL X.K H p xs /\ k = !xs.isEmpty) \/ (∃ xs, SqT X.K H p xs /\ k = !xs.isEmpty) \/ ∃ kvs, H p = some (.dK kvs) /\ k = !kvs.isEmpty := e
    rcases e' with ⟨xs, hx, e'⟩ | ⟨xs, hx, e'⟩ | ⟨kvs, hx, e'⟩
    · subst e'
      obtain ⟨its, r, pl, hz⟩ := I.list hx
      have hlen := r.length
      exact wpAny_truthy_list pl.isList (by simp only [List.size_toArray]; omega) ⟨H, I.tok _, by rw [oh r]; exact q⟩
    · subst e'
      obtain ⟨its, r, pl, hz⟩ := I.tuple hx
      have hlen := r.length
      exact truthy_tuple pl (by simp only [List.size_toArray]; omega) ⟨H, I.tok _, by rw [oh r]; exact q⟩
    · subst e'
      obtain ⟨hz, hS, vs, r, m⟩ : kvs.length <= sizeLine /\ (p == sysModules) = false /\ ∃ vs, KV kvs vs /\ s.heap.DictOf (qz X.prog X.w) p vs := I.hok p _ hx
      have hlen : kvs.length = vs.length := Paired.length r
      exact wpAny_truthy_dict hS m (by omega) ⟨H, I.tok _, by rw [uG r]; exact q⟩
  | _ => exact (show False from e).elim
theorem yh (ha : PE X a ta) (he : ∀ whole, isTrue a X.env whole = (do let v ← whole; standAt a.pos; holding [v] (truthy v))) :
    PT X a (fun σ H Q => ta σ H fun x H' => ∃ k, AG X.K x H' k /\ Q k H') := by
  intro pins s σ H Q I h
  exact isTrue_plain (thn (ha pins s σ H _ I h) fun v s1 ⟨x, H1, I1, r1, q1⟩ => B7 pins s1 σ H1 x v Q I1 r1 q1) (he _)
theorem uK : OpR X (binaryOp .Add) (fun x y H Q => ∃ i j, x = .str i /\ y = .str j /\ i.length + j.length <= sizeLine /\ Q (.str (i ++ j)) H) := by
  intro pins s σ H x y v u Q I rx ry h
  obtain ⟨i, j, rfl, rfl, hz, q⟩ := h
  obtain ⟨t, rfl⟩ := rx
  obtain ⟨t', rfl⟩ := ry
  exact add_str (fun t' tk => ⟨.str (i ++ j), H, I.tok _, ⟨_, rfl⟩, q⟩) hz
theorem vals1 {x : V} {us : List Value} (r : Vals [x] us) : ∃ u, us = [u] /\ RelV x u := by
  cases r with
  | cons r1 r2 => cases r2; exact ⟨_, rfl, r1⟩
theorem vals2 {x y : V} {us : List Value} (r : Vals [x, y] us) : ∃ u w', us = [u, w'] /\ RelV x u /\ RelV y w' := by
  cases r with
  | cons r1 r2 =>
    cases r2 with
    | cons r3 r4 => cases r4; exact ⟨_, _, rfl, r1, r3⟩
theorem wF (hc : X.calm = true) : dj X (.builtin "max") (fun xs H Q => ∃ i j, xs = [.int i, .int j] /\ Q (.int (if j > i then j else i)) H) := by
  intro pins s σ H xs us Q I r h
  obtain ⟨i, j, rfl, q⟩ := h
  obtain ⟨u, w', rfl, ⟨t, rfl⟩, ⟨t', rfl⟩⟩ := vals2 r
  refine max_two_ints (I.ok.hd hc) fun h' tk k => ⟨_, H, I.kept k, ?_, q⟩
  by_cases hj : j > i
  · rw [if_pos hj, if_pos hj]; exact ⟨_, rfl⟩
  · rw [if_neg hj, if_neg hj]; exact ⟨_, rfl⟩
theorem wb : dj X (.type "int") (fun xs H Q => (∃ i, xs = [.int i] /\ Q (.int i) H) \/ ∃ k, xs = [.bl k] /\ Q (.int (if k then 1 else 0)) H) := by
  intro pins s σ H xs us Q I r h
  rcases h with ⟨i, rfl, q⟩ | ⟨k, rfl, q⟩
  · obtain ⟨u, rfl, t, rfl⟩ := vals1 r
    exact call_int_int ⟨.int i, H, I, ⟨_, rfl⟩, q⟩
  · obtain ⟨u, rfl, r1⟩ := vals1 r
    cases r1
    exact call_int_bool ⟨.int (if k then 1 else 0), H, I.tok _, ⟨_, rfl⟩, q⟩
end
structure Cd (h : Heap) (x dx C : Addr) (mA : Str -> Option Value) : Prop where
  obj : h.get? x = some (PySem.W.instObj C dx)
  ns : h.Ns1 dx mA
  ne : dx ≠ x
theorem xc {h : Heap} {dx : Addr} {mA : Str -> Option Value} (n : h.Ns1 dx mA) : ∃ od, h.get? dx = some od /\ ∀ name, PySem.W.lookIn name od = some (mA name) := by
  obtain ⟨o, es, ep, ho, hd, hk, _, hm⟩ := n
  refine ⟨o, ho, fun name => ?_⟩
  have e := hm name
  unfold nsFind findBy at e
  rw [<- Array.find?_toList] at e
  unfold PySem.W.lookIn
  rw [hd]
  dsimp only
  split
  · rename_i y q
    rw [q] at e
    exact congrArg some e
  · rename_i q
    rw [q] at e
    have a : es.toList.any (·.refKey) = false := by
      rw [List.any_eq_false]
      intro y hy
      obtain ⟨z, t, hkey⟩ := hk y (Array.mem_toList_iff.mp hy)
      simp [DictEntry.refKey, hkey]
    have a' : ¬ es.toList.any (·.refKey) = true := by rw [a]; exact Bool.false_ne_true
    rw [if_neg a']
    exact congrArg some e
theorem Cd.look {h : Heap} {x dx C : Addr} {mA : Str -> Option Value} (I : Cd h x dx C mA) : ∃ od, PySem.W.InstAt h x (PySem.W.instObj C dx) C (some od) /\ ∀ name, PySem.W.lookIn name od = some (mA name) :=
  let ⟨od, ho, hl⟩ := xc I.ns
  ⟨od, ⟨I.obj, rfl, rfl, ho⟩, hl⟩
section
variable {P : Program} {w : World} {H H' : Hp} {h h' : Heap} {a C dx : Addr} {fs fs' : List (Str × V)}
theorem zI (hok : HOk P w H h) (e : H a = some (.ins C dx fs)) : ∃ mA, Cd h a dx C mA /\ (∀ f, Cb (fs.lookup f) (mA f)) /\ PySem.Within mA (fs.map (·.1)) /\ fs.length <= 1000 /\ H dx = some (.own a) := by
  obtain ⟨d, z, ne, ob, mA, n, r, q⟩ := (show cP P w H h a (.ins C dx fs) from hok a _ e)
  exact ⟨mA, ⟨ob, n, ne⟩, r, q, z, d⟩
end
structure Cls (K : PySem.W.Frag) (C : Addr) : Prop where
  pg : PySem.W.plainGet K C Str.empty = true
  hd : PySem.W.hasDictIn K C = true
  po : PySem.W.plainOver K C = true
  sa : PySem.W.findIn K (.ref C) "__setattr__" = some (some (.builtin "object.__setattr__"))
theorem Cls.get {K : PySem.W.Frag} {C : Addr} (c : Cls K C) (f : Str) : PySem.W.plainGet K C f = true := c.pg
section
variable {X : Cx} {pins : List (Addr × Obj)} {σ : St} {H : Hp} {s : Shared} {A : Around} {E : Value -> Shared -> Prop} {Q : Value -> Shared -> Prop} {c : Value} {b : Bool}
inductive km (K : PySem.W.Frag) (H : Hp) : V -> Value -> Prop where
  | non : km K H .non (.type "NoneType")
  | bl (x : Bool) : km K H (.bl x) (.type "bool")
  | int (i : Int) : km K H (.int i) (.type "int")
  | str (x : Str) : km K H (.str x) (.type "str")
  | flt (x : UInt64) : km K H (.flt x) (.type "float")
  | lst {a : Addr} {xs : List V} (e : H a = some (.lst xs)) : km K H (.ref a) (.type "list")
  | frz {a : Addr} {o : Obj} {xs : List V} (e : H a = some (.frz o (.lst xs))) : km K H (.ref a) (.type "list")
  | tup {a : Addr} {xs : List V} (e : H a = some (.tup xs)) : km K H (.ref a) (.type "tuple")
  | gO {a : Addr} {o : Obj} {kvs : List (Key × V)} (e : H a = some (.frz o (.dK kvs))) : km K H (.ref a) (.type "dict")
  | dK {a : Addr} {kvs : List (Key × V)} (e : H a = some (.dK kvs)) : km K H (.ref a) (.type "dict")
  | dT {a : Addr} {kvs : List (List Key × V)} (e : H a = some (.dT kvs)) : km K H (.ref a) (.type "dict")
  | ins {a C dx : Addr} {fs : List (Str × V)} (e : H a = some (.ins C dx fs)) (cl : Cls K C) (ha : PySem.W.findIn K (.ref C) "__class__" = some (some (.builtin "object.__class__")))
      (hn : PySem.W.specialIn K (.builtin "object.__class__") "__get__" = some (some (.builtin "getset_descriptor.__get__"))) (htk : PySem.W.takesIn K (.builtin "object.__class__") = some true)
      (hm : PySem.W.mroIn K C (.type "object") = some true) : km K H (.ref a) (.ref C)
theorem wQ {x : V} {u t : Value} (I : Inv X pins σ H s) (rx : RelV x u) (ty : km X.K H x t) (e : PySem.W.kitOne X.K t c = some b) (h : ∀ tk, Q (.bool b) { s with toks := tk }) :
    wpAny (model X.prog X.w) A (call (.builtin "isinstance") [u, c]) Q E s := by
  cases ty with
  | non => cases (show u = Value.none from rx); exact PySem.W.kia_one PySem.W.kitx_none I.kIn True.intro e (fun z => nomatch z) h
  | bl y => cases (show u = Value.bool y from rx); exact PySem.W.kia_one PySem.W.kitx_bool I.kIn True.intro e (fun z => nomatch z) h
  | int i => obtain ⟨t, q⟩ := (show ∃ t, u = Value.int i t from rx); cases q; exact PySem.W.kia_one PySem.W.kitx_int I.kIn True.intro e (fun z => nomatch z) h
  | str y => obtain ⟨t, q⟩ := (show ∃ t, u = Value.str y t from rx); cases q; exact PySem.W.kia_one PySem.W.kitx_str I.kIn True.intro e (fun z => nomatch z) h
  | flt y => obtain ⟨t, q⟩ := (show ∃ t, u = Value.float y t from rx); cases q; exact PySem.W.kia_one PySem.W.kitx_float I.kIn True.intro e (fun z => nomatch z) h
  | @lst a xs ea =>
    cases (show u = Value.ref a from rx)
    obtain ⟨_, _, n, _, h1⟩ := (show cP X.prog X.w H s.heap a (.lst xs) from I.hok a _ ea)
    exact PySem.W.kia_one PySem.W.kitx_list I.kIn ⟨_, h1, rfl⟩ e (fun z => nomatch z) h
  | @frz a ob xs ea =>
    cases (show u = Value.ref a from rx)
    obtain ⟨_, _, _, n, _, h1⟩ := (show cP X.prog X.w H s.heap a (.frz ob (.lst xs)) from I.hok a _ ea)
    exact PySem.W.kia_one PySem.W.kitx_list I.kIn ⟨_, h1, rfl⟩ e (fun z => nomatch z) h
  | @tup a xs ea =>
    cases (show u = Value.ref a from rx)
    obtain ⟨_, _, _, p⟩ := (show cP X.prog X.w H s.heap a (.tup xs) from I.hok a _ ea)
    obtain ⟨o, h1, ⟨h2, _⟩, _⟩ := p
    exact PySem.W.kia_one PySem.W.kitx_tuple I.kIn ⟨o, h1, h2⟩ e (fun z => nomatch z) h
  | @gO a ob kvs ea =>
    cases (show u = Value.ref a from rx)
    obtain ⟨_, _, _, vs, _, p⟩ := (show cP X.prog X.w H s.heap a (.frz ob (.dK kvs)) from I.hok a _ ea)
    obtain ⟨o, es, ep, h1, h2, _⟩ := p
    exact PySem.W.kia_one PySem.W.kitx_dict I.kIn ⟨o, h1, h2.1⟩ e (fun z => nomatch z) h
  | @dK a kvs ea =>
    cases (show u = Value.ref a from rx)
    obtain ⟨_, _, vs, _, p⟩ := (show cP X.prog X.w H s.heap a (.dK kvs) from I.hok a _ ea)
    obtain ⟨o, es, ep, h1, h2, _⟩ := p
    exact PySem.W.kia_one PySem.W.kitx_dict I.kIn ⟨o, h1, h2.1⟩ e (fun z => nomatch z) h
  | @dT a kvs ea =>
    cases (show u = Value.ref a from rx)
    obtain ⟨_, _, xs, _, o, es, ep, h1, h2, _⟩ := (show cP X.prog X.w H s.heap a (.dT kvs) from I.hok a _ ea)
    exact PySem.W.kia_one PySem.W.kitx_dict I.kIn ⟨o, h1, h2.1⟩ e (fun z => nomatch z) h
  | @ins a C dx fs ea cl ha hn htk hm =>
    cases (show u = Value.ref a from rx)
    obtain ⟨mA, O, _⟩ := zI I.hok ea
    obtain ⟨od, J, _⟩ := O.look
    exact PySem.W.kia_one (PySem.W.kitx_own (cl.get _) cl.hd ha hn htk hm) I.kIn J e (fun z => nomatch z) h
end
structure fR (k : Nat) (A : Around) : Prop where
  hd : A.handled = none
  dp : A.depth + 3 * k + 5 < recursionLimit
  un : A.units + 16 * k + 200 < cLine
  gd : A.guards = some []
theorem fR.mono {j k : Nat} {A : Around} (r : fR k A) (h : j <= k) : fR j A := ⟨r.hd, by have := r.dp; omega, by have := r.un; omega, r.gd⟩
theorem fR.deeper {k : Nat} {A : Around} (r : fR (k + 1) A) (env : Env) : fR k (A.deeper env) :=
  ⟨r.hd, by have := r.dp; show A.depth + 1 + 3 * k + 5 < _; omega, by have := r.un; show A.units + 3 + 16 * k + 200 < _; omega, r.gd⟩
theorem fR.depth {k : Nat} {A : Around} (r : fR k A) : A.depth < recursionLimit := by have := r.dp; omega
theorem fR.units {k : Nat} {A : Around} (r : fR k A) : A.units + 64 < cLine := by have := r.un; omega
noncomputable def Dw : TA := fun _ H Q => Q [] H
noncomputable def Bw (ta : TE) (tr : TA) : TA := fun σ H Q => ta σ H fun x H1 => tr σ H1 fun xs H2 => Q (x :: xs) H2
section
variable {X : Cx} {e : Expr} {es : List Expr} {te : TE} {t : TA} {pos : Pos}
theorem r6 : PA X [] Dw := fun _ _ _ _ H Q I h => Calls.spliced_nil ⟨[], H, I, .nil, h⟩
theorem k8 (ha : PE X e te) (hr : PA X es t) (hs : starEach (e :: es) X.env = (false, eval e X.env) :: starEach es X.env := by rfl) : PA X (e :: es) (Bw te t) := by
  intro pos pins s σ H Q I h
  rw [hs]
  show wpAny _ _ (spliced ((false, eval e X.env) :: backTo pos (starEach es X.env))) _ _ s
  refine Calls.spliced_cons (thn (ha pins s σ H _ I h) fun u s1 ⟨x, H1, I1, r1, q1⟩ => ?_)
  exact thn (hr pos pins s1 σ H1 _ I1 q1) fun us s2 ⟨xs, H2, I2, r2, q2⟩ => ⟨x :: xs, H2, I2, .cons r1 r2, q2⟩
noncomputable def F4 (t : TA) : TE := fun σ H Q => t σ H fun xs H1 => xs.length <= sizeLine /\ ∀ p, H1 p = none -> Q (.ref p) (upd H1 p (.tup xs))
noncomputable def F9 (t : TA) : TE := fun σ H Q => t σ H fun xs H1 => xs.length <= sizeLine /\ ∀ p, H1 p = none -> Q (.ref p) (upd H1 p (.lst xs))
theorem CY {x1} (h : PA X es t) : PE X (.Tuple es x1 pos) (F4 t) := by
  intro pins s σ H Q I hq
  refine wpAny_Tuple_spliced (thn (h pos pins s σ H _ I hq) fun us s1 ⟨xs, H1, I1, r, z, q⟩ => ⟨by rw [<- r.length]; exact z, ?_⟩)
  have hf : H1 s1.heap.objs.size = none := I1.hok.fresh (Nat.le_refl _)
  refine ⟨.ref s1.heap.objs.size, upd H1 s1.heap.objs.size (.tup xs), I1.laid (t' := s1.toks) (fun b u e => Heap.get?_push_of_some _ e) (Nat.le_refl _) ?_, rfl, q _ hf⟩
  exact ⟨z, us, r, ⟨_, Heap.get?_push_size _ rfl, ⟨rfl, _, rfl⟩, rfl⟩⟩
theorem Cn (h : PA X es t) : PE X (.List es pos) (F9 t) := by
  intro pins s σ H Q I hq
  refine wpAny_List_spliced (thn (h pos pins s σ H _ I hq) fun us s1 ⟨xs, H1, I1, r, z, q⟩ => ⟨by rw [<- r.length]; exact z, ?_⟩)
  have hf : H1 s1.heap.objs.size = none := I1.hok.fresh (Nat.le_refl _)
  refine ⟨.ref s1.heap.objs.size, upd H1 s1.heap.objs.size (.lst xs), I1.laid (t' := s1.toks) (fun b u e => Heap.get?_push_of_some _ e) (Nat.le_refl _) ?_, rfl, q _ hf⟩
  exact ⟨z, us, 0, r, Heap.get?_push_size _ rfl⟩
end
noncomputable abbrev Sp := List V -> Hp -> VK -> XK -> Prop
noncomputable abbrev CXT := List Env -> Hp -> Shared -> XK -> Value -> Shared -> Prop
structure w_ (P : Program) (w : World) (K : PySem.W.Frag) (mg : Str -> Option Value) (base : Heap) (A : Around) (outer : List Env) (s : Shared) (H : Hp) : Prop where
  frames : A.frames = some outer
  mod : Mod K mg base
  bs : ∀ b o, base.get? b = some o -> s.heap.get? b = some o /\ H b = none
  bsz : base.objs.size <= s.heap.objs.size
  mq : s.heap.FunFrames base outer
  frf : ∀ b ∈ frs outer, H b = none
  hok : HOk P w H s.heap
  bare : AllBare s.gens
noncomputable def CE (outer : List Env) (P : Program) (w : World) (H : Hp) (s : Shared) (Q : VK) (u : Value) (s' : Shared) : Prop :=
  ∃ v H', s'.os = s.os /\ AllBare s'.gens /\ Un (frs outer) [] H H' s.heap s'.heap /\ HOk P w H' s'.heap /\ RelV v u /\ Q v H'
noncomputable def CR (CX : CXT) (outer : List Env) (P : Program) (w : World) (H : Hp) (s : Shared) (Q : VK) (E : XK) (r : Result) (s' : Shared) : Prop :=
  match r with
  | .ok (.ret u) => CE outer P w H s Q u s'
  | .ok _ => False
  | .error e => CX outer H s E e s'
structure eS (P : Program) (w : World) (K : PySem.W.Frag) (mg : Str -> Option Value) (base : Heap) (CX : CXT) (k : Nat) (f : Addr) (fd : FuncData) (ps : List Str) (sp : Sp) : Prop where
  len : ∀ vs H Q E, sp vs H Q E -> vs.length = ps.length
  run : ∀ (A : Around) (outer : List Env) (s : Shared) (H : Hp) (args : Args) (us : List Value) (vs : List V) (Q : VK) (E : XK), fR k A -> w_ P w K mg base A outer s H -> BindsTo s fd args (ps.zip us) -> Vals vs us -> sp vs H Q E →
    codeAny (model P w) A (.call (.ref f) args) (CR CX outer P w H s Q E) s
theorem eS.mono {P : Program} {w : World} {K : PySem.W.Frag} {mg : Str -> Option Value} {base : Heap} {CX : CXT} {j k : Nat} {f : Addr} {fd : FuncData} {ps : List Str} {sp : Sp} (F : eS P w K mg base CX j f fd ps sp) (h : j <= k) :
    eS P w K mg base CX k f fd ps sp := ⟨F.len, fun A outer s H args us vs Q E hr => F.run A outer s H args us vs Q E (hr.mono h)⟩
theorem eS.imp {P : Program} {w : World} {K : PySem.W.Frag} {mg : Str -> Option Value} {base : Heap} {CX : CXT} {k : Nat} {f : Addr} {fd : FuncData} {ps : List Str} {sp sp' : Sp} (F : eS P w K mg base CX k f fd ps sp)
    (h : ∀ vs H Q E, sp' vs H Q E -> sp vs H Q E) : eS P w K mg base CX k f fd ps sp' :=
  ⟨fun vs H Q E q => F.len vs H Q E (h _ _ _ _ q), fun A outer s H args us vs Q E hr he hb hv hs => F.run A outer s H args us vs Q E hr he hb hv (h _ _ _ _ hs)⟩
section
variable {X : Cx} {pins : List (Addr × Obj)} {σ : St} {H : Hp} {s s' : Shared}
theorem Inv.DF (I : Inv X pins σ H s) : w_ X.prog X.w X.K X.mg X.base X.A X.stack s H :=
  ⟨I.ok.frames, I.ok.mod, I.bs, Nat.le_trans I.ok.bsz I.sz, I.stack, I.vq, I.hok, I.bare⟩
theorem Inv.after {Q : VK} {u : Value} (I : Inv X pins σ H s) (h : CE X.stack X.prog X.w H s Q u s') : EP X pins σ Q u s' := by
  obtain ⟨v, H', os, bare, un, hok, r, q⟩ := h
  obtain ⟨hh, g, d, t, os'⟩ := s'
  obtain rfl : os' = s.os := os
  exact ⟨v, H', I.call (h' := hh) (g' := g) (d' := d) (t' := t) (ch := []) un hok bare (fun b z => absurd z (by simp)), r, q⟩
end
noncomputable def Dn (sp : Sp) (dvs : List V) (E : XK) (t : TA) : TE := fun σ H Q => t σ H fun vs H1 => sp (vs ++ dvs) H1 Q E
noncomputable def Binds (K : PySem.W.Frag) (fd : FuncData) (ps : List Str) (ds : List Value) : Prop :=
  ∀ (s : Shared) (us : List Value), K.In s.heap -> (us ++ ds).length = ps.length -> BindsTo s fd ⟨us, []⟩ (ps.zip (us ++ ds))
theorem Binds.all {K : PySem.W.Frag} {fd : FuncData} {ps : List Str} (h : ∀ us : List Value, us.length = ps.length -> bindArgs fd ⟨us, []⟩ = pure (ps.zip us)) : Binds K fd ps [] := fun s us _ hl => by
  rw [List.append_nil] at hl ⊢
  exact .of_eq (h us hl)
noncomputable def Passes (CX : CXT) (X : Cx) (E : XK) : Prop := ∀ (pins : List (Addr × Obj)) (σ : St) (H : Hp) (s : Shared) (e : Value) (s' : Shared), Inv X pins σ H s -> CX X.stack H s E e s' -> X.xe e s'
section
variable {X : Cx} {CX : CXT} {k : Nat} {f C : Addr} {fd : FuncData} {ps : List Str} {sp : Sp} {dvs : List V} {ds : List Value} {E : XK} {x m : Str} {p pos apos : Pos} {e o : Expr} {es : List Expr} {ta : TE} {t : TA}
theorem C8 {pins : List (Addr × Obj)} {σ : St} {H : Hp} {s : Shared} {Q : VK} {us : List Value} {vs : List V} (F : eS X.prog X.w X.K X.mg X.base CX k f fd ps sp) (hr : fR k X.A) (hb : Binds X.K fd ps ds) (hd : Vals dvs ds) (hx : Passes CX X E)
    (I : Inv X pins σ H s) (r : Vals vs us) (h : sp (vs ++ dvs) H Q E) : wpAny (model X.prog X.w) X.A (call (.ref f) us) (EP X pins σ Q) X.xe s := by
  have r2 : Vals (vs ++ dvs) (us ++ ds) := r.append hd
  have hl : (us ++ ds).length = ps.length := by rw [<- r2.length]; exact F.len _ _ _ _ h
  refine wpAny_call (codeAny_mono (F.run X.A X.stack s H ⟨us, []⟩ (us ++ ds) (vs ++ dvs) Q E hr I.DF (hb s us I.kIn hl) r2 h) fun r s' hq => ?_)
  cases r with
  | error e => exact hx pins σ H s e s' I hq
  | ok fl =>
    cases fl with
    | ret u => exact I.after hq
    | next => exact False.elim hq
    | brk => exact False.elim hq
    | cont => exact False.elim hq
theorem AR (F : eS X.prog X.w X.K X.mg X.base CX k f fd ps sp) (hr : fR k X.A) (hg : Gl X x) (hm : X.mg x = some (.ref f)) (hk : PySem.W.keepIn X.K (.ref f) = true) (hb : Binds X.K fd ps ds) (hd : Vals dvs ds) (hx : Passes CX X E)
    (ha : PA X (e :: es) t) (hdb : (x == ("__debug__" : Str)) = false := by decide) (he : starEach (e :: es) X.env = (false, eval e X.env) :: starEach es X.env := by rfl) (hpl : (backTo pos (starEach es X.env)).any (·.1) = false := by rfl) :
    PE X (.Call (.Name x p) (e :: es) [] pos) (Dn sp dvs E t) := by
  intro pins s σ H Q I h
  refine wpAny_Call_Name_kw (vj I hg hm ?_ hdb)
  refine PySem.W.callWith_K (h₀ := X.base) I.ok.mod.kin hk (thn (ha pos pins s σ H _ I h) fun us s1 ⟨vs, H1, I1, r, q⟩ => ⟨I1.kIn, ?_⟩) he hpl
  exact C8 F hr hb hd hx I1 r q
end
structure aL (N P : List Str) (sc : Scope) : Prop where
  kind : sc.kind = .function
  co : sc.isCoroutine = false
  gen : sc.isGenerator = false
  nd : N.Nodup
  pre : N.take P.length = P
  par : ∀ x ∈ P, sc.names.lookup x = some .local \/ sc.names.lookup x = some .cell
  Cc : ∀ y ∈ sc.names, y.2 ≠ .free
theorem pW {kindOf : Str -> Option NameKind} {x : Str} : ∀ {binds : List (Str × Value)} {m : Str -> Option Value}, (∀ v, (x, v) ∉ binds) -> bindL kindOf binds m x = m x
  | [], _, _ => rfl
  | (n, v) :: r, m, h => by
    unfold bindL
    rw [pW fun w hw => h w (List.mem_cons_of_mem _ hw)]
    split
    · have : x ≠ n := by rintro rfl; exact h v List.mem_cons_self
      simp [this]
    · rfl
theorem qj {kindOf : Str -> Option NameKind} {x : Str} : ∀ {binds : List (Str × Value)} {m : Str -> Option Value}, (∀ v, (x, v) ∉ binds) -> bindC kindOf binds m x = m x
  | [], _, _ => rfl
  | (n, v) :: r, m, h => by
    unfold bindC
    rw [qj fun w hw => h w (List.mem_cons_of_mem _ hw)]
    split
    · rfl
    · have : x ≠ n := by rintro rfl; exact h v List.mem_cons_self
      simp [this]
theorem qd {kindOf : Str -> Option NameKind} {x : Str} {v : Value} : ∀ {P : List Str} {vs : List Value} {i : Nat} {m : Str -> Option Value}, P.Nodup -> P[i]? = some x -> vs[i]? = some v -> kindOf x = some .local →
    bindL kindOf (P.zip vs) m x = some v
  | [], _, _, _, _, h, _, _ => by simp at h
  | _ :: _, [], _, _, _, _, h, _ => by simp at h
  | p :: P, w :: vs, 0, m, nd, h1, h2, hk => by
    simp at h1 h2; subst h1; subst h2
    show bindL kindOf ((p, w) :: P.zip vs) m p = _
    unfold bindL
    rw [pW fun v hv => (List.nodup_cons.mp nd).1 (List.of_mem_zip hv).1, if_pos hk]
    simp
  | p :: P, w :: vs, i + 1, m, nd, h1, h2, hk => by
    show bindL kindOf ((p, w) :: P.zip vs) m x = _
    unfold bindL
    exact qd (i := i) (List.nodup_cons.mp nd).2 (by simpa using h1) (by simpa using h2) hk
theorem pL {kindOf : Str -> Option NameKind} {x : Str} {v : Value} : ∀ {P : List Str} {vs : List Value} {i : Nat} {m : Str -> Option Value}, P.Nodup -> P[i]? = some x -> vs[i]? = some v -> kindOf x ≠ some .local →
    bindC kindOf (P.zip vs) m x = some v
  | [], _, _, _, _, h, _, _ => by simp at h
  | _ :: _, [], _, _, _, _, h, _ => by simp at h
  | p :: P, w :: vs, 0, m, nd, h1, h2, hk => by
    simp at h1 h2; subst h1; subst h2
    show bindC kindOf ((p, w) :: P.zip vs) m p = _
    unfold bindC
    rw [qj fun v hv => (List.nodup_cons.mp nd).1 (List.of_mem_zip hv).1, if_neg hk]
    simp
  | p :: P, w :: vs, i + 1, m, nd, h1, h2, hk => by
    show bindC kindOf ((p, w) :: P.zip vs) m x = _
    unfold bindC
    exact pL (i := i) (List.nodup_cons.mp nd).2 (by simpa using h1) (by simpa using h2) hk
noncomputable def start (N : List Str) (vs : List V) : St := vs.map some ++ List.replicate (N.length - vs.length) none
noncomputable def kj (CX : CXT) (P : Program) (w : World) (K : PySem.W.Frag) (mg : Str -> Option Value) (base : Heap) (N : List Str) (qual : Str) (scope : Scope) (f : Addr) (cd : Value) (A : Around) (outer : List Env) (s : Shared) (H : Hp) (E : XK) : Cx where
  prog := P
  w := w
  K := K
  mg := mg
  base := base
  A := A.deeper (envOfC qual scope s.heap.objs.size f cd)
  N := N
  aM := s
  aU := H
  env := envOfC qual scope s.heap.objs.size f cd
  outer := outer
  stack := envOfC qual scope s.heap.objs.size f cd :: outer
  ex := []
  calm := true
  fn := fun _ => true
  pn := []
  xe := fun e s' => wpAny (model P w) (A.deeper (envOfC qual scope s.heap.objs.size f cd)) (leaving (envOfC qual scope s.heap.objs.size f cd) e) (fun _ s'' => CX outer H s E e s'') (fun e' s'' => CX outer H s E e' s'') s'
theorem sD {sc : Scope} {n : Nat} {x : Str} (h : sc.names.lookup x = some .cell) : ∃ c, (cellsFrom n sc.names []).lookup x = some c := by
  have q := PySem.W.cellsFrom_some sc.names n [] (.inl h)
  exact Option.isSome_iff_exists.mp q
theorem qh {CX : CXT} {P : Program} {w : World} {K : PySem.W.Frag} {mg : Str -> Option Value} {base : Heap} {N ps : List Str} {qual : Str} {scope : Scope} {f : Addr} {cd : Value} {A : Around} {outer : List Env} {s s1 : Shared} {H : Hp} {E : XK} {us : List Value} {vs : List V}
    (S : aL N ps scope) (hd : A.handled = none) (e0 : w_ P w K mg base A outer s H) (hl : vs.length = ps.length) (r : Vals vs us)
    (x : InCallC s s.heap.objs.size (bindL (envOfC qual scope s.heap.objs.size f cd).kindOf (ps.zip us) fun _ => none) (cellsFrom (s.heap.objs.size + 1) scope.names []) (bindC (envOfC qual scope s.heap.objs.size f cd).kindOf (ps.zip us) fun _ => none) s1) :
    Inv (kj CX P w K mg base N qual scope f cd A outer s H E) [] (start N vs) H s1 := by
  have hpl : ps.length <= N.length := by have := congrArg List.length S.pre; rw [List.length_take] at this; omega
  obtain ⟨h1, tk, rfl, hk⟩ := x.done
  have noA : ∀ b : Addr, b ∉ (kj CX P w K mg base N qual scope f cd A outer s H E).ex := fun b z => absurd (show b ∈ ([] : List Addr) from z) (by simp)
  refine ⟨⟨e0.mod, S.kind, rfl, rfl, Nat.le_refl _, fun y z c h1 h2 => ?_, fun y hy => ?_, fun y c _ h => ?_, fun _ => hd, Around.frames_deeper e0.frames, .inr ⟨rfl, rfl⟩, fun b z => absurd z (noA b), e0.bs, e0.bsz, fun b _ _ => noA b, fun b z => absurd z (noA b), e0.mq, e0.frf⟩,
    rfl, e0.bare, Un.kept hk, ⟨_, x.toInCall.ns, fun i y v h1 h2 h3 => ?_⟩, fun y c h => ⟨_, x.cell y c h⟩, e0.hok.fresh (Nat.le_refl _), fun y c h => ?_, fun p hp => absurd (show p ∈ ([] : List (Addr × Obj)) from hp) (by simp), e0.hok.kept hk, ?_⟩
  · exact name_of_addr x.apart (PySem.mem_of_lookup h1) (PySem.mem_of_lookup h2)
  · have hy : scope.names.lookup y = some .cell \/ scope.names.lookup y = some .free := hy
    rcases hy with hy | hy
    · exact sD hy
    · exact absurd rfl (S.Cc _ (PySem.mem_of_lookup hy))
  · exact Nat.le_of_lt (x.above y c (PySem.mem_of_lookup h))
  · have hi : i < vs.length := by
      unfold start at h2
      by_cases hi : i < vs.length
      · exact hi
      · rw [List.getElem?_append_right (by simpa using hi)] at h2
        rw [List.getElem?_replicate] at h2
        split at h2 <;> cases h2
    have ha : vs[i]? = some v := by
      unfold start at h2
      rw [List.getElem?_append_left (by simpa using hi), List.getElem?_map] at h2
      cases e : vs[i]? with
      | none => rw [e] at h2; cases h2
      | some a => rw [e] at h2; cases h2; rfl
    obtain ⟨u, hu, rv⟩ := r.get ha
    have hp : ps[i]? = some y := by
      rw [<- S.pre, List.getElem?_take_of_lt (by omega)]; exact h1
    have ndP : ps.Nodup := by rw [<- S.pre]; exact S.nd.sublist (List.take_sublist _ _)
    refine ⟨u, rv, ?_⟩
    rcases S.par y (List.mem_of_getElem? hp) with k | k
    · exact .inl ⟨k, qd ndP hp hu k⟩
    · obtain ⟨c, e⟩ := sD (n := s.heap.objs.size + 1) k
      refine .inr ⟨.inl k, c, e, ?_⟩
      have q := x.cell y c e
      rw [pL ndP hp hu (by show scope.names.lookup y ≠ _; rw [k]; decide)] at q
      exact q
  · exact e0.hok.fresh (Nat.le_of_lt (x.above y c (PySem.mem_of_lookup h)))
  · unfold start
    show _ = N.length
    rw [List.length_append, List.length_map, List.length_replicate]
    omega
theorem Dt {CX : CXT} {P : Program} {w : World} {K : PySem.W.Frag} {mg : Str -> Option Value} {base : Heap} {k : Nat} {f : Addr} {name qual : Str} {params : Arguments} {body : List Stmt} {scope : Scope} {dV kV doc pm cdv ct oc : Value} {an od : Option Addr}
    {osl : Array (Option Value)} {N ps : List Str} {sp : Sp} (lk : K.lookup f = some ⟨oc, od, .func (PySem.W.fnOf name qual params body scope dV kV doc pm an cdv ct), osl⟩) (hcd : PySem.W.codeIn K cdv qual = true) (S : aL N ps scope)
    (len : ∀ vs H Q E, sp vs H Q E -> vs.length = ps.length)
    (hbody : ∀ (A : Around) (outer : List Env) (s : Shared) (H : Hp) (vs : List V) (Q : VK) (E : XK), fR k (A.deeper (envOfC qual scope s.heap.objs.size f cdv)) -> sp vs H Q E →
      ∃ t, PSs (kj CX P w K mg base N qual scope f cdv A outer s H E) body t /\ t { nx := fun _ H' => Q .non H', rt := Q } (start N vs) H) :
    eS P w K mg base CX (k + 1) f (PySem.W.fnOf name qual params body scope dV kV doc pm an cdv ct) ps sp := by
  refine ⟨len, fun A outer s H args us vs Q E hr e0 hb r hsp => ?_⟩
  have hl := len _ _ _ _ hsp
  have KX : K.In s.heap := e0.mod.kin.keeps fun b o e => (e0.bs b o e).1
  have lim : s.heap.NoLimit := e0.mod.nolimit.keeps fun b o e => (e0.bs b o e).1
  have hkind : ∀ y ∈ ps.zip us, scope.names.lookup y.1 = some .local \/ (scope.names.lookup y.1 = some .cell /\ ((cellsFrom (s.heap.objs.size + 1) scope.names []).lookup y.1).isSome = true) := fun ⟨n, v⟩ hy => by
    rcases S.par n (List.of_mem_zip hy).1 with q | q
    · exact .inl q
    · exact .inr ⟨q, PySem.W.cellsFrom_some _ _ _ (.inl q)⟩
  refine codeAny_call_function hr.depth (KX _ _ lk) rfl S.co S.gen rfl (PySem.W.codeRec_of KX hcd) (hb _ _ _ _ ?_)
  refine wpAny_newFunctionEnv_cells S.kind hkind fun env he s1 x => ?_
  subst he
  refine ⟨lim.keeps x.toInCall.keep, codeAny_func ?_⟩
  obtain ⟨t, ht, hq⟩ := hbody A outer s H vs Q E (hr.deeper _) hsp
  have I : Inv (kj CX P w K mg base N qual scope f cdv A outer s H E) [] (start N vs) H s1 := qh S hr.hd e0 hl r x
  refine wpAny_mono (ht [] s1 (start N vs) H _ I hq) (fun fl s' hs => ?_) fun e s' hs => hs
  have fin : ∀ {σ' : St} {H' : Hp} {v : V} {u : Value}, Inv (kj CX P w K mg base N qual scope f cdv A outer s H E) [] σ' H' s' -> RelV v u -> Q v H' -> CE outer P w H s Q u s' :=
    fun {σ' H' v u} J rv q => ⟨v, H', J.os, J.bare, J.base, J.hok, rv, q⟩
  cases fl with
  | ret u =>
    obtain ⟨v, σ', H', J, rv, q⟩ := hs
    exact fin J rv q
  | next =>
    obtain ⟨σ', H', J, q⟩ := hs
    exact fin (v := V.non) (u := Value.none) J rfl q
  | brk =>
    obtain ⟨_, _, _, q⟩ := hs
    exact False.elim q
  | cont =>
    obtain ⟨_, _, _, q⟩ := hs
    exact False.elim q
section
variable {X : Cx} {x : Str} {p pos : Pos} {e : Expr} {es : List Expr} {t : TA} {id T : String} {r : List V -> Hp -> VK -> Prop}
noncomputable def tCB (r : List V -> Hp -> VK -> Prop) (t : TA) : TE := fun σ H Q => t σ H fun vs H1 => r vs H1 Q
theorem t_ (hc : dj X (.builtin id) r) (hg : Gl X x) (hm : X.mg x = none) (hv : bootBuiltins x = some (.builtin id)) (ha : PA X (e :: es) t) (hn : x ≠ "__name__" := by decide) (hdb : (x == ("__debug__" : Str)) = false := by decide)
    (he : starEach (e :: es) X.env = (false, eval e X.env) :: starEach es X.env := by rfl) (hpl : (backTo pos (starEach es X.env)).any (·.1) = false := by rfl) : PE X (.Call (.Name x p) (e :: es) [] pos) (tCB r t) := by
  intro pins s σ H Q I h
  refine wpAny_Call_Name_kw (j5 I hg hm hv ?_ hn hdb)
  exact PyProof.Rows.callWith_builtin1 (thn (ha pos pins s σ H _ I h) fun us s1 ⟨vs, H1, I1, r1, q1⟩ => hc pins s1 σ H1 vs us Q I1 r1 q1) he hpl
theorem lY (hc : dj X (.type T) r) (hg : Gl X x) (hm : X.mg x = none) (hv : bootBuiltins x = some (.type T)) (ha : PA X (e :: es) t) (hn : x ≠ "__name__" := by decide) (hdb : (x == ("__debug__" : Str)) = false := by decide)
    (he : starEach (e :: es) X.env = (false, eval e X.env) :: starEach es X.env := by rfl) (hpl : (backTo pos (starEach es X.env)).any (·.1) = false := by rfl) : PE X (.Call (.Name x p) (e :: es) [] pos) (tCB r t) := by
  intro pins s σ H Q I h
  refine wpAny_Call_Name_kw (j5 I hg hm hv ?_ hn hdb)
  exact PyProof.Rows.callWith_type1 (thn (ha pos pins s σ H _ I h) fun us s1 ⟨vs, H1, I1, r1, q1⟩ => hc pins s1 σ H1 vs us Q I1 r1 q1) he hpl
end
end L2
namespace HT
open PySem PyProof.Rows
section
variable {prog : Program} {w : World} {A : Around} {E : Value -> Shared -> Prop} {s : Shared}
theorem zS {t b : Addr} {vs ws : List Value} {Q : Value -> Shared -> Prop} (ht : IsTup s.heap t vs.toArray) (hb : IsTup s.heap b ws.toArray) (hv : vs ≠ [])
    (h1 : ws = [] -> Q (.ref t) s) (h2 : ws ≠ [] -> Q (.ref s.heap.objs.size) { s with heap := s.heap.push { cls := .type "tuple", data := .seq (vs ++ ws).toArray } })
    (hsz : vs.length + ws.length <= sizeLine) : wpAny (model prog w) A (binaryOp .Add (.ref t) (.ref b)) Q E s := by
  obtain ⟨⟨cls, dd, data, sl⟩, ho, hc, n, hd⟩ := id ht
  obtain ⟨⟨cls2, dd2, data2, sl2⟩, ho2, hc2, n2, hd2⟩ := id hb
  simp only at hc hd hc2 hd2
  subst hc hd hc2 hd2
  have e : vs.toArray ++ ws.toArray = (vs ++ ws).toArray := by simp
  by_cases hw : ws = []
  · exact concat_meets ⟨_, ho, rfl⟩ ⟨_, ho2, rfl⟩ noFill_tuple_add seq_tuple_add PySem.F.slot_tuple_add PySem.F.entry_tuple_add (PySem.F.args_tuple_add_2 _ _)
      (tuple_addW1 t b vs.toArray ws.toArray n n2 dd dd2 sl sl2 (by simpa using hv) (by simp [hw])) ⟨ho, ho2, h1 hw⟩
  · refine concat_meets ⟨_, ho, rfl⟩ ⟨_, ho2, rfl⟩ noFill_tuple_add seq_tuple_add PySem.F.slot_tuple_add PySem.F.entry_tuple_add (PySem.F.args_tuple_add_2 _ _)
      (tuple_addW2 t b vs.toArray ws.toArray n n2 dd dd2 sl sl2 (by simpa using hv) (by simpa using hw) (by rw [List.size_toArray, List.size_toArray]; exact hsz)) ⟨ho, ho2, ?_⟩
    rw [e]
    exact h2 hw
noncomputable def sIx (n d : Nat) : Option Int -> Nat
  | none => d
  | some v => if v < 0 then (v + (n : Int)).toNat else min v.toNat n
theorem yM (n d : Nat) : sIx n d none = d := rfl
theorem Bc (n d k : Nat) : sIx n d (some (k : Int)) = min k n := by
  show (if (k : Int) < 0 then ((k : Int) + (n : Int)).toNat else min (k : Int).toNat n) = min k n
  rw [if_neg (by omega), Int.toNat_natCast]
theorem Cj (n d : Nat) (hd : d <= n) (o : Option Int) : sIx n d o <= n := by
  cases o with
  | none => exact hd
  | some v =>
    show (if v < 0 then (v + (n : Int)).toNat else min v.toNat n) <= n
    by_cases hv : v < 0
    · rw [if_pos hv]; omega
    · rw [if_neg hv]; exact Nat.min_le_right _ _
theorem vB (v : Int) (n d : Nat) : (if v < 0 then max (v + (n : Int)) 0 else min v (n : Int)) = ((sIx n d (some v) : Nat) : Int) := by
  show (if v < 0 then max (v + (n : Int)) 0 else min v (n : Int)) = (((if v < 0 then (v + (n : Int)).toNat else min v.toNat n) : Nat) : Int)
  by_cases hv : v < 0
  · simp only [if_pos hv]; omega
  · simp only [if_neg hv]; omega
theorem uQ (lo hi : Option Int) (n : Nat) : Builtin.Slice.sliceAdjust lo hi 1 (n : Int) = (((sIx n 0 lo : Nat) : Int), ((sIx n n hi : Nat) : Int)) := by
  have h1 : ¬ ((1 : Int) < 0) := by omega
  unfold Builtin.Slice.sliceAdjust
  simp only [h1, if_false]
  refine Prod.ext ?_ ?_
  · cases lo with
    | none => rfl
    | some v => exact vB v n 0
  · cases hi with
    | none => rfl
    | some v => exact vB v n n
theorem ud (i j : Nat) : Builtin.Slice.slicePlaces (i : Int) (j : Int) 1 = j - i := by
  unfold Builtin.Slice.slicePlaces
  have h1 : (1 : Int) > 0 := by omega
  simp only [h1, if_true, Int.ediv_one]
  split <;> omega
theorem nV {v : Value} {o : Option Int} {Q : Option Int -> Shared -> Prop} (p : IsPart v o) (h : Q o s) : wpAny (model prog w) A (Builtin.Slice.slicePartIndex v) Q E s := by
  cases p with
  | none => exact slicePart_none h
  | int i t => exact slicePart_int h
theorem gZ {sl : Addr} {vl vu : Value} {lo hi : Option Int} {n : Nat} {Q : Int × Int × Nat -> Shared -> Prop} (hs : s.heap.IsSliceOf sl vl vu .none) (pl : IsPart vl lo) (pu : IsPart vu hi)
    (h : Q (((sIx n 0 lo : Nat) : Int), 1, sIx n n hi - sIx n 0 lo) s) : wpAny (model prog w) A (Builtin.Slice.sliceApplied (.ref sl) (pure (n : Int))) Q E s := by
  obtain ⟨os, hos, hcs, hds⟩ := id hs
  unfold Builtin.Slice.sliceApplied Builtin.Slice.sliceFields
  refine wpAny_bind (wpAny_bind (wpAny_field hos hds (x := vl) rfl (wpAny_bind (wpAny_field hos hds (x := vu) rfl (wpAny_bind (wpAny_field hos hds (x := .none) rfl (wpAny_pure ?_)))))))
  refine wpAny_bind (slicePart_none ?_)
  show wpAny _ _ (if ((1 : Int) == 0) = true then _ else _) _ _ s
  rw [if_neg (by decide)]
  refine wpAny_bind (nV pl (wpAny_bind (nV pu (wpAny_bind (wpAny_pure ?_)))))
  show wpAny _ _ (match Builtin.Slice.sliceAdjust lo hi 1 (n : Int) with | (lo, hi) => pure (lo, (1 : Int), Builtin.Slice.slicePlaces lo hi 1)) _ _ s
  rw [uQ lo hi n]
  show wpAny _ _ (pure (((sIx n 0 lo : Nat) : Int), (1 : Int), Builtin.Slice.slicePlaces ((sIx n 0 lo : Nat) : Int) ((sIx n n hi : Nat) : Int) 1)) _ _ s
  rw [ud]
  exact wpAny_pure h
theorem ym (xs : Array Value) (i k : Nat) : ((List.range k).filterMap fun (m : Nat) => xs[((i : Int) + (m : Int) * 1).toNat]?).toArray = ((xs.toList.drop i).take k).toArray := by
  have e : (fun (m : Nat) => xs[((i : Int) + (m : Int) * 1).toNat]?) = fun m => xs[i + m]? := by
    funext m
    have : ((i : Int) + (m : Int) * 1).toNat = i + m := by omega
    rw [this]
  rw [e]
  have := pick_run xs i k
  rw [List.filterMap_map] at this
  have e2 : ((fun x => xs[x]?) ∘ fun x => i + x) = fun m => xs[i + m]? := rfl
  rw [e2] at this
  rw [this]
theorem kJ {t sl : Addr} {items : Array Value} {vl vu : Value} {lo hi : Option Int} {Q : Value -> Shared -> Prop} (ht : IsTup s.heap t items) (hs : s.heap.IsSliceOf sl vl vu .none) (pl : IsPart vl lo) (pu : IsPart vu hi)
    (hw : ¬ (sIx items.size 0 lo = 0 /\ sIx items.size items.size hi = items.size))
    (h : Q (.ref s.heap.objs.size) { s with heap := s.heap.push { cls := .type "tuple", data := .seq ((items.toList.drop (sIx items.size 0 lo)).take (sIx items.size items.size hi - sIx items.size 0 lo)).toArray } })
    (hsz : items.size <= sizeLine) : wpAny (model prog w) A (getItem (.ref t) (.ref sl)) Q E s := by
  have htake : sizeOk (.seq ((items.toList.drop (sIx items.size 0 lo)).take (sIx items.size items.size hi - sIx items.size 0 lo)).toArray) := by
    show ((items.toList.drop (sIx items.size 0 lo)).take (sIx items.size items.size hi - sIx items.size 0 lo)).toArray.size <= sizeLine
    rw [List.size_toArray, List.length_take, List.length_drop, Array.length_toList]
    omega
  have hj : sIx items.size items.size hi <= items.size := Cj _ _ (Nat.le_refl _) hi
  obtain ⟨os, hos, hcs, hds⟩ := id hs
  have hTs : s.TypeIs (.ref sl) "slice" := ⟨os, hos, hcs⟩
  unfold getItem
  try with_reducible refine wpAny_holding ?_
  first | refine wpAny_bind (wpAny_pure ?_) | skip
  refine wpAny_bind (wpAny_sequenceKey ht.typeIs (by decide) ?_)
  refine wpAny_bind (wpAny_callSpecial?_slot (name := Str.ofString "__getitem__") ht.typeIs PyProof.Rows.slot_tuple_getitem
    (wpAny_call_entry PyProof.Rows.slot_tuple_getitem ht.typeIs entry_tuple_getitem ?_ (args_tuple_getitem _ _)))
  show wpAny _ _ (Builtin.Tuple.tupleItemsOf (.ref t) >>= _) _ _ s
  refine wpAny_bind (tupleItemsOf_ ht ?_)
  refine wpAny_bind (wpAny_typeOf hTs ?_)
  rw [if_pos (by decide)]
  refine wpAny_bind (gZ hs pl pu ?_)
  have hno : ¬ ((((sIx items.size 0 lo : Nat) : Int) == 0 && (1 : Int) == 1 && (sIx items.size items.size hi - sIx items.size 0 lo) == items.size) = true) := by
    intro q
    rw [Bool.and_eq_true, Bool.and_eq_true] at q
    have q1 : ((sIx items.size 0 lo : Nat) : Int) = 0 := eq_of_beq q.1.1
    have q2 : sIx items.size items.size hi - sIx items.size 0 lo = items.size := eq_of_beq q.2
    exact hw ⟨by omega, by omega⟩
  show wpAny _ _ (if (((sIx items.size 0 lo : Nat) : Int) == 0 && (1 : Int) == 1 && (sIx items.size items.size hi - sIx items.size 0 lo) == items.size) = true then _ else _) _ _ s
  rw [if_neg hno, ym]
  first
    | exact wpAny_bind (m := Builtin.Tuple.tupleExact _) (wpAny_newObj_type (wpAny_pure ⟨_, rfl, wpAny_pure h⟩) htake)
    | exact wpAny_bind (m := Builtin.Tuple.tupleExact _) (wpAny_newObj_type (wpAny_bind (wpAny_pure (wpAny_pure ⟨_, rfl, wpAny_pure h⟩))) htake)
    | exact wpAny_bind (wpAny_bind (m := Builtin.Tuple.tupleExact _) (wpAny_newObj_type (wpAny_pure (wpAny_pure ⟨_, rfl, wpAny_pure h⟩)) htake))
    | exact wpAny_bind (wpAny_bind (m := Builtin.Tuple.tupleExact _) (wpAny_newObj_type (wpAny_pure ⟨_, rfl, wpAny_pure h⟩) htake))
end
end HT
namespace L2
open PySem PySem.Spec PyProof.Rows
noncomputable abbrev TO := St -> Hp -> (Option Int -> Hp -> Prop) -> Prop
noncomputable def PO (X : Cx) (e : Option Expr) (t : TO) : Prop :=
  ∀ (pins : List (Addr × Obj)) (s : Shared) (σ : St) (H : Hp) (Q : Option Int -> Hp -> Prop), Inv X pins σ H s -> t σ H Q →
    wpAny (model X.prog X.w) X.A (evalPart e X.env) (fun u s' => ∃ o H', Inv X pins σ H' s' /\ IsPart u o /\ Q o H') X.xe s
noncomputable def AI : TO := fun _ H Q => Q none H
noncomputable def Es (t : TE) : TO := fun σ H Q => t σ H fun x H1 => ∃ i, x = .int i /\ Q (some i) H1
theorem intsAre_of {ns : List Int} : ∀ {us : List Value}, Vals (ns.map V.int) us -> IntsAre us ns := by
  induction ns with
  | nil => intro us r; rw [List.map_nil] at r; cases r; exact .nil
  | cons n ns ih =>
    intro us r
    rw [List.map_cons] at r
    cases r with
    | cons r1 r2 =>
      obtain ⟨t, e⟩ := r1
      subst e
      exact .cons n t (ih r2)
section
variable {X : Cx} {e : Expr} {te : TE} {lo hi : Option Expr} {tl th : TO} {pos p2 : Pos}
theorem A8 : PO X none AI := by
  intro pins s σ H Q I h
  rw [evalPart_none]
  exact wpAny_pure ⟨none, H, I, .none, h⟩
theorem Ah (h : PE X e te) : PO X (some e) (Es te) := by
  intro pins s σ H Q I hw
  rw [evalPart_some]
  refine thn (h pins s σ H _ I hw) fun u s1 ⟨x, H1, I1, r1, q1⟩ => ?_
  obtain ⟨i, rfl, q⟩ := q1
  obtain ⟨t, rfl⟩ := r1
  exact ⟨some i, H1, I1, .int i t, q⟩
noncomputable def SlR (X : Cx) (r : V -> Option Int -> Option Int -> Hp -> VK -> Prop) : Prop :=
  ∀ (pins : List (Addr × Obj)) (s : Shared) (σ : St) (H : Hp) (x : V) (v vl vu : Value) (lo hi : Option Int) (sl : Addr) (Q : VK), Inv X pins σ H s -> RelV x v -> s.heap.IsSliceOf sl vl vu .none -> IsPart vl lo -> IsPart vu hi -> r x lo hi H Q →
    ∃ T id, typeLookup (.type T) "__getitem__" = pure (some (.builtin id)) /\ s.TypeIs v T /\ wpAny (model X.prog X.w) X.A (getItem v (.ref sl)) (EP X pins σ Q) X.xe s
theorem SlR.or {r r' : V -> Option Int -> Option Int -> Hp -> VK -> Prop} (h : SlR X r) (h' : SlR X r') : SlR X (fun x lo hi H Q => r x lo hi H Q \/ r' x lo hi H Q) := by
  intro pins s σ H x v vl vu lo hi sl Q I rx hs pl pu q
  rcases q with q | q
  · exact h pins s σ H x v vl vu lo hi sl Q I rx hs pl pu q
  · exact h' pins s σ H x v vl vu lo hi sl Q I rx hs pl pu q
noncomputable def tSl (r : V -> Option Int -> Option Int -> Hp -> VK -> Prop) (te : TE) (tl th : TO) : TE := fun σ H Q => te σ H fun x H1 => tl σ H1 fun l H2 => th σ H2 fun u H3 => r x l u H3 Q
theorem yd {r : V -> Option Int -> Option Int -> Hp -> VK -> Prop} (hr : SlR X r) (he : PE X e te) (hl : PO X lo tl) (hu : PO X hi th) : PE X (.Subscript e (.Slice lo hi none p2) pos) (tSl r te tl th) := by
  intro pins s σ H Q I h
  refine Subscript_ (thn (he pins s σ H _ I h) fun v s1 ⟨x, H1, I1, r1, q1⟩ => ?_)
  refine wpAny_Slice (thn (hl pins s1 σ H1 _ I1 q1) fun vl s2 ⟨l, H2, I2, pl, q2⟩ => thn (hu pins s2 σ H2 _ I2 q2) fun vu s3 ⟨u, H3, I3, pu, q3⟩ => ?_)
  rw [evalPart_none]
  refine wpAny_pure ?_
  have I4 : Inv X pins σ H3 { s3 with heap := s3.heap.push { cls := .type "slice", data := .fields #[vl, vu, .none] } } := I3.kept (t' := s3.toks) fun b ob q => Heap.get?_push_of_some _ q
  obtain ⟨T, id, hT, ht, hg⟩ := hr pins { s3 with heap := s3.heap.push { cls := .type "slice", data := .fields #[vl, vu, .none] } } σ H3 x v vl vu l u s3.heap.objs.size Q I4 r1 (Heap.IsSliceOf.new ..) pl pu q3
  show wpAny (model X.prog X.w) X.A (subscriptTail e (.Slice lo hi none p2) v (.ref s3.heap.objs.size)) (EP X pins σ Q) X.xe { s3 with heap := s3.heap.push { cls := .type "slice", data := .fields #[vl, vu, .none] } }
  exact tail_any (ops := [.ref s3.heap.objs.size, v]) ht hT hg (by with_unfolding_all rfl)
noncomputable def o7 (xs : List V) (lo hi : Option Int) : List V := (xs.drop (HT.sIx xs.length 0 lo)).take (HT.sIx xs.length xs.length hi - HT.sIx xs.length 0 lo)
theorem l_ (xs : List V) (lo hi : Option Int) : (o7 xs lo hi).length <= xs.length := by
  unfold o7
  rw [List.length_take, List.length_drop]
  omega
noncomputable def E2 (K : PySem.W.Frag) : V -> Option Int -> Option Int -> Hp -> VK -> Prop := fun x lo hi H Q => ∃ a xs, x = .ref a /\ SqT K H a xs ∧
  ¬ (HT.sIx xs.length 0 lo = 0 /\ HT.sIx xs.length xs.length hi = xs.length) /\ ∀ p, H p = none -> Q (.ref p) (upd H p (.tup (o7 xs lo hi)))
theorem Cr : SlR X (E2 X.K) := by
  intro pins s σ H x v vl vu lo hi sl Q I rx hs pl pu h
  obtain ⟨a, xs, rfl, hx, hw, q⟩ := h
  cases rx
  obtain ⟨its, r, ht, hz⟩ := I.tuple hx
  have hlen : its.toArray.size = xs.length := by rw [List.size_toArray]; exact r.length.symm
  refine ⟨"tuple", _, PyProof.Rows.slot_tuple_getitem.lookup, ht.typeIs, ?_⟩
  refine HT.kJ ht hs pl pu (by rw [hlen]; exact hw) ?_ (by rw [hlen]; exact hz)
  rw [hlen]
  refine ⟨.ref s.heap.objs.size, _, I.laid (t' := s.toks) (o := .tup (o7 xs lo hi)) (fun b ob q => Heap.get?_push_of_some _ q) (Nat.le_refl _) ?_, rfl, q _ (I.hok.fresh (Nat.le_refl _))⟩
  exact ⟨Nat.le_trans (l_ xs lo hi) hz, _, (r.drop (HT.sIx xs.length 0 lo)).take (HT.sIx xs.length xs.length hi - HT.sIx xs.length 0 lo), lF.new _ _⟩
noncomputable def Bq (K : PySem.W.Frag) : R2 := fun x y H Q => ∃ a b xs ys, x = .ref a /\ y = .ref b /\ SqT K H a xs /\ SqT K H b ys /\ xs ≠ [] /\ xs.length + ys.length <= sizeLine ∧
  (ys = [] -> Q (.ref a) H) /\ (ys ≠ [] -> ∀ p, H p = none -> Q (.ref p) (upd H p (.tup (xs ++ ys))))
theorem Vals.rm {xs : List V} {us : List Value} (r : Vals xs us) : us = [] ↔ xs = [] := by
  cases r with
  | nil => simp
  | cons _ _ => simp
theorem Bk : OpR X (binaryOp .Add) (Bq X.K) := by
  intro pins s σ H x y v u Q I rx ry h
  obtain ⟨a, b, xs, ys, rfl, rfl, ha, hb, hx, hz, q1, q2⟩ := h
  cases rx
  cases ry
  obtain ⟨its, r1, p1, _⟩ := I.tuple ha
  obtain ⟨its2, r2, p2, _⟩ := I.tuple hb
  refine HT.zS p1 p2 (fun z => hx (r1.rm.mp z)) (fun z => ⟨.ref a, H, I, rfl, q1 (r2.rm.mp z)⟩) (fun z => ?_) (by rw [<- r1.length, <- r2.length]; exact hz)
  refine ⟨.ref s.heap.objs.size, _, I.laid (t' := s.toks) (o := .tup (xs ++ ys)) (fun b ob q => Heap.get?_push_of_some _ q) (Nat.le_refl _) ?_, rfl, q2 (fun w => z (r2.rm.mpr w)) _ (I.hok.fresh (Nat.le_refl _))⟩
  exact ⟨by rw [List.length_append]; exact hz, _, r1.append r2, lF.new _ _⟩
end
noncomputable def ixN (n : Nat) (i : Int) : Option Nat := if 0 <= i then (if i < n then some i.toNat else none) else if -(n : Int) <= i then some (i + n).toNat else none
noncomputable def atI {α : Type} (xs : List α) (i : Int) : Option α := (ixN xs.length i).bind fun j => xs[j]?
theorem r_ {n : Nat} {i : Int} {j : Nat} (h : ixN n i = some j) : seqIndex? i n = some j /\ j < n /\ -(n : Int) <= i /\ i < n := by
  unfold ixN at h
  by_cases h0 : 0 <= i
  · rw [if_pos h0] at h
    by_cases h1 : i < n
    · rw [if_pos h1] at h
      have e : i.toNat = j := Option.some.inj h
      exact ⟨by rw [seqIndex_of h0 h1, e], by omega, by omega, h1⟩
    · rw [if_neg h1] at h; cases h
  · rw [if_neg h0] at h
    by_cases h1 : -(n : Int) <= i
    · rw [if_pos h1] at h
      have e : (i + n).toNat = j := Option.some.inj h
      exact ⟨by rw [seqIndex_neg (by omega) h1, e], by omega, h1, by omega⟩
    · rw [if_neg h1] at h; cases h
theorem mU {α : Type} {xs : List α} {i : Int} {v : α} (h : atI xs i = some v) : ∃ j, seqIndex? i xs.length = some j /\ xs[j]? = some v /\ j < xs.length /\ -(xs.length : Int) <= i /\ i < xs.length := by
  unfold atI at h
  cases e : ixN xs.length i with
  | none => rw [e] at h; cases h
  | some j =>
    rw [e] at h
    obtain ⟨h1, h2, h3, h4⟩ := r_ e
    exact ⟨j, h1, h, h2, h3, h4⟩
theorem AB {α : Type} {xs : List α} {j : Nat} {v : α} (h : xs[j]? = some v) : atI xs (j : Int) = some v := by
  have hj : j < xs.length := (List.getElem?_eq_some_iff.mp h).1
  have e : ixN xs.length (j : Int) = some j := by
    unfold ixN
    rw [if_pos (by omega), if_pos (by omega)]; simp
  unfold atI; rw [e]; exact h
noncomputable def vg (b : Expr) : Prop := ∀ o i, subscripted b false o i = operate [o, i] (getItem o i)
noncomputable def IxR (X : Cx) (r : R2) : Prop :=
  ∀ (value slice : Expr) (pins : List (Addr × Obj)) (s : Shared) (σ : St) (H : Hp) (x y : V) (v u : Value) (Q : VK), Inv X pins σ H s -> RelV x v -> RelV y u -> r x y H Q →
    subscripted slice false v u = operate [v, u] (getItem v u) -> wpAny (model X.prog X.w) X.A (subscriptTail value slice v u) (EP X pins σ Q) X.xe s
noncomputable def MtR (X : Cx) (id : String) (r : V -> List V -> Hp -> VK -> Prop) : Prop :=
  ∀ (pins : List (Addr × Obj)) (s : Shared) (σ : St) (H : Hp) (x : V) (xs : List V) (v : Value) (us : List Value) (Q : VK), Inv X pins σ H s -> RelV x v -> Vals xs us -> r x xs H Q →
    wpAny (model X.prog X.w) X.A (call (.builtin id) (v :: us)) (EP X pins σ Q) X.xe s
section
variable {X : Cx} {a b : Expr} {ta tb : TE} {pos : Pos}
theorem IxR.or {r r' : R2} (h : IxR X r) (h' : IxR X r') : IxR X (fun x y H Q => r x y H Q \/ r' x y H Q) := by
  intro value slice pins s σ H x y v u Q I rx ry q hs
  rcases q with q | q
  · exact h value slice pins s σ H x y v u Q I rx ry q hs
  · exact h' value slice pins s σ H x y v u Q I rx ry q hs
theorem Ec {r : R2} (hr : IxR X r) (ha : PE X a ta) (hb : PE X b tb) (hs : vg b) : PE X (.Subscript a b pos) (tOp r ta tb) := by
  intro pins s σ H Q I h
  exact Subscript_ (CU ha hb I h fun v u s2 x y H2 I2 rx ry q => hr a b pins s2 σ H2 x y v u Q I2 rx ry q (hs _ _))
noncomputable def Cu (K : PySem.W.Frag) : R2 := fun x y H Q => ∃ p xs i v, x = .ref p /\ y = .int i /\ SqL K H p xs /\ atI xs i = some v /\ Q v H
noncomputable def EC (K : PySem.W.Frag) : R2 := fun x y H Q => ∃ p xs i v, x = .ref p /\ y = .int i /\ SqT K H p xs /\ atI xs i = some v /\ Q v H
noncomputable def EF : R2 := fun x y H Q => ∃ z i c, x = .str z /\ y = .int i /\ z.length <= sizeLine /\ atI z.cps.toList i = some c /\ Q (.str ⟨#[c]⟩) H
theorem zN : IxR X (Cu X.K) := by
  intro value slice pins s σ H x y v u Q I rx ry h hs
  obtain ⟨p, xs, i, z, rfl, rfl, hq, he, q⟩ := h
  cases rx
  obtain ⟨t, rfl⟩ := ry
  obtain ⟨its, r, pl, hz⟩ := I.list hq
  obtain ⟨j, h1, h2, h3, h4, h5⟩ := mU he
  obtain ⟨w, ew, rw'⟩ := r.get h2
  have hl := r.length
  have hn := jd
  have fin : EP X pins σ Q w s := ⟨z, H, I, rw', q⟩
  by_cases h0 : 0 <= i
  · have hj : i.toNat = j := by
      rw [seqIndex_of h0 h5] at h1
      exact Option.some.inj h1
    exact item_listR pl.isList h0 (by omega) (by rw [hj]; simpa using ew) fin hs
  · have hj : (i + (its.toArray.size : Int)).toNat = j := by
      rw [seqIndex_neg (by omega) h4] at h1
      rw [List.size_toArray, <- hl]
      exact Option.some.inj h1
    exact subscriptTail_builtinR (x := w) pl.isList.typeIs slot_list_getitem.lookup
      (wpAny_getItem_list_neg (Q := fun r s' => r = w /\ EP X pins σ Q r s') pl.isList (by omega) (by rw [List.size_toArray] <;> omega) (by omega) (by rw [hj]; simpa using ew) ⟨rfl, fin⟩) hs
theorem CW : IxR X (EC X.K) := by
  intro value slice pins s σ H x y v u Q I rx ry h hs
  obtain ⟨p, xs, i, z, rfl, rfl, hq, he, q⟩ := h
  cases rx
  obtain ⟨t, rfl⟩ := ry
  obtain ⟨its, r, pl, hz⟩ := I.tuple hq
  obtain ⟨j, h1, h2, h3, h4, h5⟩ := mU he
  obtain ⟨w, ew, rw'⟩ := r.get h2
  have hl := r.length
  have hn := jd
  have fin : EP X pins σ Q w s := ⟨z, H, I, rw', q⟩
  exact subscriptTail_builtinR (x := w) pl.typeIs slot_tuple_getitem.lookup
    (getItem_tuple (j := j) (Q := fun r s' => r = w /\ EP X pins σ Q r s') pl (by omega) (by omega) (by rw [List.size_toArray, <- hl]; exact h1) (by simpa using ew) ⟨rfl, fin⟩) hs
theorem Dg : IxR X EF := by
  intro value slice pins s σ H x y v u Q I rx ry h hs
  obtain ⟨z, i, c, rfl, rfl, hz, he, q⟩ := h
  obtain ⟨t, rfl⟩ := rx
  obtain ⟨t', rfl⟩ := ry
  obtain ⟨j, h1, h2, h3, h4, h5⟩ := mU he
  have hl : z.cps.toList.length = z.length := by simp [Str.length]
  rw [hl] at h1 h4 h5
  have hn := jd
  exact tail_any (typeIs_str s z t) slot_str_getitem.lookup (getItem_str (c := c) (by
    have e1 : decide (i < -(2 ^ 63 : Int)) = false := decide_eq_false (by omega)
    have e2 : decide (i ≥ 2 ^ 63) = false := decide_eq_false (by omega)
    rw [e1, e2, Bool.or_false]) (by rw [h1]; simpa using h2) ⟨.str ⟨#[c]⟩, H, I.tok _, ⟨_, rfl⟩, q⟩) hs
noncomputable def rIx (K : PySem.W.Frag) : R2 := fun x y H Q => Cu K x y H Q \/ EC K x y H Q \/ EF x y H Q
theorem dB : IxR X (rIx X.K) := zN.or (CW.or Dg)
theorem uj (its : List Value) (n j : Nat) (u : Value) : Obj.mapSeq (·.setIfInBounds j u) { cls := .type "list", data := .seq its.toArray n } = { cls := .type "list", data := .seq (its.set j u).toArray n } := by
  simp [Obj.mapSeq]
theorem Inv.lst {pins : List (Addr × Obj)} {σ : St} {H : Hp} {s : Shared} {p : Addr} {xs : List V} (I : Inv X pins σ H s) (h : H p = some (.lst xs)) :
    ∃ (its : List Value) (n : Nat), Vals xs its /\ s.heap.get? p = some { cls := .type "list", data := .seq its.toArray n } /\ xs.length <= sizeLine := by
  obtain ⟨z, its, n, r, e⟩ := I.hok p _ h
  exact ⟨its, n, r, e, z⟩
theorem Inv.BZ {pins : List (Addr × Obj)} {σ : St} {H : Hp} {s : Shared} {p : Addr} {xs ys : List V} {its its' : List Value} {n n' : Nat} {f : Obj -> Obj} (I : Inv X pins σ H s) (h : H p = some (.lst xs))
    (ho : s.heap.get? p = some { cls := .type "list", data := .seq its.toArray n }) (hf : f { cls := .type "list", data := .seq its.toArray n } = { cls := .type "list", data := .seq its'.toArray n' }) (r : Vals ys its') (hz : ys.length <= sizeLine) (t : Nat) :
    Inv X pins σ (upd H p (.lst ys)) { s with heap := s.heap.update p f, toks := t } := by
  have e : (s.heap.update p f).get? p = some { cls := .type "list", data := .seq its'.toArray n' } := by
    rw [Heap.get?_update_self f ho (by rw [hf] <;> rfl), hf]
  refine I.write (x := p) (e := p) (by rw [h]; trivial) (.inl rfl) (fun b u hb q => (Heap.get?_update_other _ _ (Ne.symm hb)).trans q) ⟨_, e⟩ ?_
  exact ⟨hz, its', n', r, e⟩
noncomputable def Bu : V -> V -> V -> Hp -> (Hp -> Prop) -> Prop := fun o i v H Q => ∃ p xs k j, o = .ref p /\ i = .int k /\ H p = some (.lst xs) /\ ixN xs.length k = some j /\ Q (upd H p (.lst (xs.set j v)))
theorem set_list : A7 X Bu := by
  intro pins s σ H o i v ov iv u Q I ro ri rv h
  obtain ⟨p, xs, k, j, rfl, rfl, hp, hj, q⟩ := h
  cases ro
  obtain ⟨t, rfl⟩ := ri
  obtain ⟨its, n, r, ho, hz⟩ := I.lst hp
  obtain ⟨h1, h2, h3, h4⟩ := r_ hj
  have hl := r.length
  have hn := jd
  have I' : Inv X pins σ (upd H p (.lst (xs.set j v))) { s with heap := s.heap.update p (Obj.mapSeq (·.setIfInBounds j u)) } :=
    I.BZ hp ho (uj its n j u) (r.set rv j) (by rw [List.length_set]; exact hz) s.toks
  by_cases h0 : 0 <= k
  · have hk : k.toNat = j := by
      rw [seqIndex_of h0 h4] at h1
      exact Option.some.inj h1
    exact PySem.W.ki_setAt ho h0 (by omega) (by rw [List.size_toArray, <- hl]; exact h4) (by rw [hk]; exact ⟨_, I', q⟩)
  · have hk : (k + (its.toArray.size : Int)).toNat = j := by
      rw [seqIndex_neg (by omega) h3] at h1
      rw [List.size_toArray, <- hl]
      exact Option.some.inj h1
    exact PySem.W.ki_setBack ho (by omega) (by rw [List.size_toArray, <- hl]; exact h3) (by omega) (by rw [hk]; exact ⟨_, I', q⟩)
theorem sd (lo hi : Option Int) (n : Nat) : (sliceBounds lo hi none n).1 = ((HT.sIx n 0 lo : Nat) : Int) /\ (sliceBounds lo hi none n).2.1 = ((HT.sIx n n hi : Nat) : Int) /\ (sliceBounds lo hi none n).2.2 = 1 := by
  refine ⟨?_, ?_, rfl⟩
  · cases lo with
    | none => simp [sliceBounds, HT.sIx]
    | some i =>
      simp only [sliceBounds, HT.sIx, Option.getD_none, show (1 : Int) > 0 by decide, if_true]
      by_cases h : i < 0
      · simp only [h, if_true] <;> omega
      · simp only [h, if_false] <;> omega
  · cases hi with
    | none => simp [sliceBounds, HT.sIx]
    | some i =>
      simp only [sliceBounds, HT.sIx, Option.getD_none, show (1 : Int) > 0 by decide, if_true]
      by_cases h : i < 0
      · simp only [h, if_true] <;> omega
      · simp only [h, if_false] <;> omega
theorem pG (its : List Value) (lo hi : Option Int) : slicePick its.toArray lo hi none = ((its.drop (HT.sIx its.length 0 lo)).take (HT.sIx its.length its.length hi - HT.sIx its.length 0 lo)).toArray := by
  obtain ⟨h1, h2, h3⟩ := sd lo hi its.toArray.size
  unfold slicePick
  rw [h1, h2, h3]
  simp only [sliceRange_one, pick_run, List.size_toArray] <;> rfl
noncomputable def Fu (K : PySem.W.Frag) : V -> Option Int -> Option Int -> Hp -> VK -> Prop := fun x lo hi H Q => ∃ a xs, x = .ref a /\ SqL K H a xs /\ ∀ p, H p = none -> Q (.ref p) (upd H p (.lst (o7 xs lo hi)))
theorem AN : SlR X (Fu X.K) := by
  intro pins s σ H x v vl vu lo hi sl Q I rx hs pl pu h
  obtain ⟨a, xs, rfl, hx, q⟩ := h
  cases rx
  obtain ⟨its, r, ht, hz⟩ := I.list hx
  have hlen := r.length
  refine ⟨"list", _, slot_list_getitem.lookup, ht.isList.typeIs, ?_⟩
  refine wpAny_getItem_list_slice ht.isList hs pl pu .none (by simp) ?_ (by rw [List.size_toArray] <;> omega)
  rw [pG, <- hlen]
  refine ⟨.ref s.heap.objs.size, _, I.laid (t' := s.toks) (o := .lst (o7 xs lo hi)) (fun b ob q => Heap.get?_push_of_some _ q) (Nat.le_refl _) ?_, rfl, q _ (I.hok.fresh (Nat.le_refl _))⟩
  exact ⟨Nat.le_trans (l_ xs lo hi) hz, _, 0, (r.drop (HT.sIx xs.length 0 lo)).take (HT.sIx xs.length xs.length hi - HT.sIx xs.length 0 lo), Heap.get?_push_size _ rfl⟩
noncomputable def jP : V -> Bool
  | .non => true
  | .bl _ => true
  | .int _ => true
  | .str _ => true
  | _ => false
noncomputable def eqV : V -> V -> Bool
  | .non, .non => true
  | .bl a, .bl b => a == b
  | .bl a, .int b => (if a then 1 else 0) == b
  | .int a, .bl b => a == (if b then 1 else 0)
  | .int a, .int b => a == b
  | .str a, .str b => a == b
  | _, _ => false
theorem CL {A : Around} {s : Shared} {y x : V} {u v : Value} (ry : RelV y u) (rx : RelV x v) (fy : jP y = true) (fx : jP x = true) : SeqAt.EqAt A s u v (eqV y x) := by
  cases y with
  | non =>
    cases ry
    cases x with
    | non => cases rx; exact SeqAt.EqAt.same _
    | bl b => cases rx; exact SeqAt.EqAt.none_bool b
    | int b => obtain ⟨t, rfl⟩ := rx; exact SeqAt.EqAt.none_int b t
    | str b => obtain ⟨t, rfl⟩ := rx; exact SeqAt.EqAt.none_str b t
    | _ => exact absurd (show false = true from fx) Bool.false_ne_true
  | bl a =>
    cases ry
    cases x with
    | non => cases rx; exact SeqAt.EqAt.bool_none a
    | bl b => cases rx; exact SeqAt.EqAt.bool_bool a b
    | int b => obtain ⟨t, rfl⟩ := rx; exact SeqAt.EqAt.bool_int a b t
    | str b => obtain ⟨t, rfl⟩ := rx; exact SeqAt.EqAt.bool_str a b t
    | _ => exact absurd (show false = true from fx) Bool.false_ne_true
  | int a =>
    obtain ⟨t', rfl⟩ := ry
    cases x with
    | non => cases rx; exact SeqAt.EqAt.int_none a t'
    | bl b => cases rx; exact SeqAt.EqAt.int_bool a t' b
    | int b => obtain ⟨t, rfl⟩ := rx; exact SeqAt.EqAt.int_int a t' b t
    | str b => obtain ⟨t, rfl⟩ := rx; exact SeqAt.EqAt.int_str a t' b t
    | _ => exact absurd (show false = true from fx) Bool.false_ne_true
  | str a =>
    obtain ⟨t', rfl⟩ := ry
    cases x with
    | non => cases rx; exact SeqAt.EqAt.str_none a t'
    | bl b => cases rx; exact SeqAt.EqAt.str_bool a t' b
    | int b => obtain ⟨t, rfl⟩ := rx; exact SeqAt.EqAt.str_int a t' b t
    | str b => obtain ⟨t, rfl⟩ := rx; exact SeqAt.EqAt.str_str a t' b t
    | _ => exact absurd (show false = true from fx) Bool.false_ne_true
  | _ => exact absurd (show false = true from fy) Bool.false_ne_true
noncomputable def eqU (x : V) (u : Value) : Bool := match u with
  | .none => eqV .non x
  | .bool b => eqV (.bl b) x
  | .int i _ => eqV (.int i) x
  | .str z _ => eqV (.str z) x
  | _ => false
theorem yF {x y : V} {u : Value} (r : RelV y u) (f : jP y = true) : eqU x u = eqV y x := by
  cases y with
  | non => cases r; rfl
  | bl b => cases r; rfl
  | int i => obtain ⟨t, rfl⟩ := r; rfl
  | str z => obtain ⟨t, rfl⟩ := r; rfl
  | _ => exact absurd (show false = true from f) Bool.false_ne_true
theorem qA {x : V} : ∀ {xs : List V} {us : List Value}, Vals xs us -> xs.all jP = true -> us.any (eqU x) = xs.any fun y => eqV y x
  | _, _, .nil, _ => rfl
  | y :: xs, u :: us, .cons r t, f => by
    rw [List.all_cons, Bool.and_eq_true] at f
    rw [List.any_cons, List.any_cons, yF r f.1, qA t f.2]
theorem oT {A : Around} {s : Shared} {x : V} {v : Value} (rx : RelV x v) (fx : jP x = true) : ∀ {xs : List V} {us : List Value}, Vals xs us -> xs.all jP = true -> ∀ u ∈ us, SeqAt.EqAt A s u v (eqU x u)
  | _, _, .nil, _ => fun u hu => by cases hu
  | y :: xs, u :: us, .cons r t, f => fun u' hu => by
    rw [List.all_cons, Bool.and_eq_true] at f
    rcases List.mem_cons.mp hu with rfl | hu
    · rw [yF r f.1]; exact CL r rx f.1 fx
    · exact oT rx fx t f.2 u' hu
noncomputable def inV (x : V) (xs : List V) : Bool := xs.any fun y => eqV y x
noncomputable def rIn (K : PySem.W.Frag) (neg : Bool) : R2 := fun x y H Q => ∃ p xs, y = .ref p /\ (SqL K H p xs \/ SqT K H p xs) /\ jP x = true /\ xs.all jP = true /\ Q (.bl (if neg then !inV x xs else inV x xs)) H
theorem kC : OpR X (compareOp .NotIn) (rIn X.K true) := by
  intro pins s σ H x y v u Q I rx ry h
  obtain ⟨p, xs, rfl, hq, fx, fs, q⟩ := h
  cases ry
  rcases hq with hq | hq
  · obtain ⟨its, r, pl, hz⟩ := I.list hq
    refine SeqAt.notIn_listAt (eqU x) pl.isList (fun w hw => oT rx fx r fs w (by simpa using hw)) ⟨.bl _, H, I, rfl, ?_⟩
    rw [show its.toArray.any (eqU x) = its.any (eqU x) by simp, qA r fs]
    exact q
  · obtain ⟨its, r, pl, hz⟩ := I.tuple hq
    refine SeqAt.notIn_tupleAt (eqU x) pl (fun w hw => oT rx fx r fs w (by simpa using hw)) ⟨.bl _, H, I, rfl, ?_⟩
    rw [show its.toArray.any (eqU x) = its.any (eqU x) by simp, qA r fs]
    exact q
theorem qv : dj X (.builtin "len") (fun xs H Q => ∃ p ys, xs = [.ref p] /\ (SqL X.K H p ys \/ SqT X.K H p ys) /\ Q (.int ys.length) H) := by
  intro pins s σ H xs us Q I r h
  obtain ⟨p, ys, rfl, hq, q⟩ := h
  obtain ⟨u, rfl, rx⟩ := vals1 r
  cases rx
  have hn := jd
  rcases hq with hq | hq
  · obtain ⟨its, r', pl, hz⟩ := I.list hq
    have hlen := r'.length
    exact Calls.call_len_list pl.isList (by simp only [List.size_toArray] <;> omega) ⟨.int ys.length, H, I.tok _, ⟨s.toks + 1, by rw [List.size_toArray, hlen]⟩, q⟩
  · obtain ⟨its, r', pl, hz⟩ := I.tuple hq
    have hlen := r'.length
    exact len_tuple pl (by simp only [List.size_toArray] <;> omega) ⟨.int ys.length, H, I.tok _, ⟨s.toks + 1, by rw [List.size_toArray, hlen]⟩, q⟩
theorem qZ : dj X (.builtin "len") (fun xs H Q => ∃ z, xs = [.str z] /\ z.length <= sizeLine /\ Q (.int z.length) H) := by
  intro pins s σ H xs us Q I r h
  obtain ⟨z, rfl, hz, q⟩ := h
  obtain ⟨u, rfl, t, rfl⟩ := vals1 r
  have hn := jd
  exact len_str (by omega) ⟨.int z.length, H, I.tok _, ⟨_, rfl⟩, q⟩
theorem dj.or {f : Value} {r r' : List V -> Hp -> VK -> Prop} (h : dj X f r) (h' : dj X f r') : dj X f (fun xs H Q => r xs H Q \/ r' xs H Q) := by
  intro pins s σ H xs us Q I rs q
  rcases q with q | q
  · exact h pins s σ H xs us Q I rs q
  · exact h' pins s σ H xs us Q I rs q
theorem gQ : dj X (.type "tuple") (fun xs H Q => ∃ p ys, xs = [.ref p] /\ ((SqL X.K H p ys /\ ∀ l, H l = none -> Q (.ref l) (upd H l (.tup ys))) \/ (SqT X.K H p ys /\ Q (.ref p) H))) := by
  intro pins s σ H xs us Q I r h
  obtain ⟨p, ys, rfl, h⟩ := h
  obtain ⟨u, rfl, rx⟩ := vals1 r
  cases rx
  rcases h with ⟨hq, q⟩ | ⟨hq, q⟩
  · obtain ⟨its, r', pl, hz⟩ := I.list hq
    have hlen := r'.length
    refine call_tuple_list pl.isList (fun h' kp => ?_) (by simp only [List.size_toArray] <;> omega)
    have I1 : Inv X pins σ H { s with heap := h' } := I.kept (t' := s.toks) kp
    have I2 : Inv X pins σ (upd H h'.objs.size (.tup ys)) { s with heap := h'.push { cls := .type "tuple", data := .seq its.toArray } } :=
      I1.laid (t' := s.toks) (fun b o e => Heap.get?_push_of_some _ e) (Nat.le_refl _) (show cP X.prog X.w _ _ _ (.tup ys) from ⟨hz, its, r', lF.new _ _⟩)
    exact ⟨.ref h'.objs.size, _, I2, rfl, q _ (I1.hok.fresh (Nat.le_refl _))⟩
  · obtain ⟨its, r', pl, hz⟩ := I.tuple hq
    exact call_tuple_same pl ⟨.ref p, H, I, rfl, q⟩
noncomputable def tyV (K : PySem.W.Frag) (T : String) (x : V) (H : Hp) : Prop := match x with
  | .str _ => T = "str"
  | .int _ => T = "int"
  | .ref p => (T = "list" /\ ∃ xs, SqL K H p xs) \/ (T = "tuple" /\ ∃ o, K.lookup p = some o /\ o.cls = .type "tuple" /\ o.dict = none) ∨
      (T = "dict" /\ ((∃ kvs, H p = some (.dK kvs)) \/ ∃ kvs, H p = some (.dT kvs))) \/ (T = "set" /\ ∃ S n, H p = some (.set S n)) \/ (T = "tuple" /\ ∃ xs, H p = some (.tup xs))
  | _ => False
theorem C0 {pins : List (Addr × Obj)} {σ : St} {H : Hp} {s : Shared} {T : String} {x : V} {v : Value} (I : Inv X pins σ H s) (r : RelV x v) (ty : tyV X.K T x H) :
    s.TypeIs v T /\ ∀ a, v = .ref a -> ∃ ob, s.heap.get? a = some ob /\ ob.dict = none := by
  cases x with
  | str z =>
    obtain ⟨t, rfl⟩ := r
    cases (show T = "str" from ty)
    exact ⟨typeIs_str s z t, fun _ e => nomatch e⟩
  | int i =>
    obtain ⟨t, rfl⟩ := r
    cases (show T = "int" from ty)
    exact ⟨typeIs_int s i t, fun _ e => nomatch e⟩
  | ref p =>
    cases r
    rcases ty with ⟨rfl, xs, hq⟩ | ⟨rfl, o, hk, hc, hd⟩ | ⟨rfl, hk⟩ | ⟨rfl, S, n, hk⟩ | ⟨rfl, xs, hk⟩
    · obtain ⟨its, _, pl, _⟩ := I.list hq
      refine ⟨pl.isList.typeIs, fun a e => ?_⟩
      cases e
      obtain ⟨o, n, e, c, hd, _⟩ := pl
      exact ⟨o, e, hd⟩
    · refine ⟨⟨o, I.kIn p o hk, hc⟩, fun a e => ?_⟩
      cases e
      exact ⟨o, I.kIn _ o hk, hd⟩
    · have z : ∃ o, s.heap.get? p = some o /\ o.ExactDict := by
        rcases hk with ⟨kvs, hk⟩ | ⟨kvs, hk⟩
        · obtain ⟨_, _, _, _, o, _, _, e, ex, _⟩ := I.hok p _ hk
          exact ⟨o, e, ex⟩
        · obtain ⟨_, _, _, _, o, _, _, e, ex, _⟩ := I.hok p _ hk
          exact ⟨o, e, ex⟩
      obtain ⟨o, e, ex⟩ := z
      refine ⟨⟨o, e, ex.1⟩, fun a e2 => ?_⟩
      cases e2
      exact ⟨o, e, ex.2.1⟩
    · obtain ⟨o, _, _, _, e, ex, _⟩ := I.hok p _ hk
      refine ⟨⟨o, e, ex.1⟩, fun a e2 => ?_⟩
      cases e2
      exact ⟨o, e, ex.2.1⟩
    · obtain ⟨_, _, _, o, e, ⟨c, _⟩, hd⟩ := I.hok p _ hk
      refine ⟨⟨o, e, c⟩, fun a e2 => ?_⟩
      cases e2
      exact ⟨o, e, hd⟩
  | _ => exact False.elim ty
noncomputable def tBM (K : PySem.W.Frag) (T : String) (r : V -> List V -> Hp -> VK -> Prop) (to : TE) (t : TA) : TE := fun σ H Q => to σ H fun x H1 => tyV K T x H1 /\ t σ H1 fun xs H2 => r x xs H2 Q
variable {o e : Expr} {es : List Expr} {to : TE} {t : TA} {name : Str} {apos cpos : Pos} {T id : String} {r : V -> List V -> Hp -> VK -> Prop}
theorem DX (pa : PlainAttrs T) (slot : Slot T name id) (hty : typeOf (.builtin id) = pure (.type "method_descriptor")) (hm : MtR X id r) (ho : PE X o to) (ha : PA X (e :: es) t)
    (hbase : attributeBase o name X.env (eval o X.env) = eval o X.env := by rfl)
    (hfew : ((backTo cpos (starEach (e :: es) X.env)).all (fun x => !x.1) && (backToKw cpos (keywordEach [] X.env)).all (fun x => x.1.isSome)
      && decide ((e :: es).length + ([] : List Keyword).length + (if ([] : List Keyword).isEmpty then 0 else 1) < 30)) = true := by rfl)
    (hline : (apos.endLine == cpos.line) = true := by rfl) (hs : starEach (e :: es) X.env = (false, eval e X.env) :: starEach es X.env := by rfl) (hplain : (backTo cpos (starEach es X.env)).any (·.1) = false := by rfl) :
    PE X (.Call (.Attribute o name apos) (e :: es) [] cpos) (tBM X.K T r to t) := by
  intro pins s σ H Q I h
  refine wpAny_Call_method_late hbase hfew hline rfl (thn (ho pins s σ H _ I h) fun v s1 ⟨x, H1, I1, r1, ty, q1⟩ => ?_)
  obtain ⟨h1, h2⟩ := C0 I1 r1 ty
  refine ⟨T, id, pa, slot, hty, h1, h2, ?_⟩
  have hA := ha cpos pins s1 σ H1 _ I1 q1
  rw [hs] at hA ⊢
  refine Calls.callWith_builtin (by show (false || (backTo cpos (starEach es X.env)).any (·.1)) = false; rw [hplain] <;> rfl) (Calls.evalArgs_plain ?_)
  exact thn hA fun us s2 ⟨vs, H2, I2, r2, q2⟩ => hm pins s2 σ H2 x vs v us Q I2 r1 r2 q2
/- xs.append(e), list.index on a module's tuple .. are MtR facts of 06m -/
end
noncomputable def MtM (X : Cx) (id : String) (r : V -> List V -> Hp -> VK -> Prop) : Prop :=
  ∀ (pins : List (Addr × Obj)) (s : Shared) (σ : St) (H : Hp) (x : V) (xs : List V) (v : Value) (us : List Value) (Q : VK), Inv X pins σ H s -> RelV x v -> Vals xs us -> r x xs H Q →
    wpAny (model X.prog X.w) X.A (call (.builtin id) (v :: us)) (EP X pins σ Q) X.xe s
theorem Vals.one : ∀ {x : V} {us : List Value}, Vals [x] us -> ∃ u, us = [u] /\ RelV x u
  | _, _, .cons r .nil => ⟨_, rfl, r⟩
theorem Vals.eraseIdx : ∀ {xs : List V} {us : List Value} (i : Nat), Vals xs us -> Vals (xs.eraseIdx i) (us.eraseIdx i)
  | _, _, _, .nil => .nil
  | _, _, 0, .cons _ t => t
  | _, _, i + 1, .cons r t => .cons r (Vals.eraseIdx i t)
theorem Vals.rep {xs : List V} {us : List Value} (h : Vals xs us) : ∀ k : Nat, Vals (List.replicate k xs).flatten (List.replicate k us).flatten
  | 0 => .nil
  | k + 1 => by
    rw [List.replicate_succ, List.replicate_succ, List.flatten_cons, List.flatten_cons]
    exact Vals.append h (Vals.rep h k)
theorem p_ {α : Type} : ∀ (l : List α) (i : Nat), (l.eraseIdx i).length <= l.length
  | [], _ => Nat.le_refl _
  | _ :: _, 0 => Nat.le_succ _
  | _ :: r, i + 1 => Nat.succ_le_succ (p_ r i)
theorem foldl_rep (its : List Value) : ∀ (k : Nat) (acc : List Value),
    List.foldl (fun x1 x2 => x1 ++ x2) acc.toArray (List.replicate k its.toArray) = (acc ++ (List.replicate k its).flatten).toArray
  | 0, acc => by simp
  | k + 1, acc => by
    have e : acc.toArray ++ its.toArray = (acc ++ its).toArray := by simp
    have e2 : (acc ++ its) ++ (List.replicate k its).flatten = acc ++ (List.replicate (k + 1) its).flatten := by
      rw [List.replicate_succ, List.flatten_cons, List.append_assoc]
    rw [<- e2, <- foldl_rep its k (acc ++ its), <- e, List.replicate_succ, List.foldl_cons]
section
variable {X : Cx} {pins : List (Addr × Obj)} {σ : St} {H : Hp} {s : Shared} {l b : Addr} {xs ys zs : List V}
theorem Inv.D1 {its its' : List Value} {n : Nat} {f : Array Value -> Array Value} {t' : Nat} (I : Inv X pins σ H s) (hH : H l = some (.lst xs))
    (e : s.heap.get? l = some { cls := .type "list", data := .seq its.toArray n }) (hf : f its.toArray = its'.toArray) (hv : Vals ys its') (hz : ys.length <= sizeLine) :
    Inv X pins σ (upd H l (.lst ys)) { s with heap := s.heap.update l (Obj.mapSeq f), toks := t' } := by
  have q := PySem.IsL.update e f
  rw [hf] at q
  refine I.write (x := l) (e := l) (by rw [hH]; exact trivial) (.inl rfl) (fun b' u hb hu => (Heap.get?_update_other s.heap (Obj.mapSeq f) (Ne.symm hb)).trans hu) ⟨_, q⟩ ?_
  exact ⟨hz, its', _, hv, q⟩
theorem Inv.Dc {its : List Value} {t' : Nat} (I : Inv X pins σ H s) (hv : Vals ys its) (hz : ys.length <= sizeLine) :
    Inv X pins σ (upd H s.heap.objs.size (.lst ys)) { s with heap := s.heap.push { cls := .type "list", data := .seq its.toArray }, toks := t' } :=
  I.laid (fun _ _ q => Heap.get?_push_of_some _ q) (Nat.le_refl _) ⟨hz, its, 0, hv, Heap.get?_push_size _ rfl⟩
theorem Inv.fresh (I : Inv X pins σ H s) : H s.heap.objs.size = none := I.hok.fresh (Nat.le_refl _)
theorem Inv.DH (I : Inv X pins σ H s) (hH : H l = some (.lst xs)) : xs.length <= sizeLine /\ ∃ (its : List Value) (n : Nat), Vals xs its /\ xs.length = its.length /\ s.heap.get? l = some { cls := .type "list", data := .seq its.toArray n } := by
  obtain ⟨z, its, n, r, e⟩ := I.hok l _ hH
  exact ⟨z, its, n, r, r.length, e⟩
theorem yR {n : Nat} (h : n <= sizeLine) : Builtin.List.listTooLong n = false := by
  unfold Builtin.List.listTooLong
  exact decide_eq_false (by omega)
end
section
variable {X : Cx}
noncomputable def vf : V -> List V -> Hp -> VK -> Prop := fun x vs H Q => ∃ l xs y, x = .ref l /\ vs = [y] /\ H l = some (.lst xs) /\ xs.length < sizeLine /\ Q .non (upd H l (.lst (xs ++ [y])))
theorem pU : MtM X "list.append" vf := by
  intro pins s σ H x vs v us Q I rx rv h
  obtain ⟨l, xs, y, rfl, rfl, hH, hz, q⟩ := h
  cases rx
  obtain ⟨u, rfl, ru⟩ := rv.one
  obtain ⟨z, its, n, r, hl, e⟩ := I.DH hH
  refine call_meets F.slot_list_append ⟨_, e, rfl⟩ F.entry_list_append (F.args_list_append_2 _ _) (PySem.list_append l its.toArray n u (by rw [List.size_toArray]; omega)) ⟨e, ?_⟩
  refine ⟨.non, _, I.D1 (its' := its ++ [u]) hH e (by simp) (r.append (.cons ru .nil)) ?_, rfl, q⟩
  rw [List.length_append, List.length_singleton]
  omega
noncomputable def ye : V -> List V -> Hp -> VK -> Prop := fun x vs H Q => ∃ l xs i k y, x = .ref l /\ vs = [.int i] /\ H l = some (.lst xs) /\ -(2 ^ 63) <= i /\ i < 2 ^ 63 /\ seqIndex? i xs.length = some k /\ xs[k]? = some y /\ Q y (upd H l (.lst (xs.eraseIdx k)))
theorem zi : MtM X "list.pop" ye := by
  intro pins s σ H x vs v us Q I rx rv h
  obtain ⟨l, xs, i, k, y, rfl, rfl, hH, h1, h2, hk, hy, q⟩ := h
  cases rx
  obtain ⟨u, rfl, ru⟩ := rv.one
  obtain ⟨t, rfl⟩ := ru
  obtain ⟨z, its, n, r, hl, e⟩ := I.DH hH
  obtain ⟨w, hw, rw'⟩ := r.get hy
  refine call_meets F.slot_list_pop ⟨_, e, rfl⟩ F.entry_list_pop (F.args_list_pop_2 _ _)
    (MeetsSeq.list_pop_at l its.toArray n i t k w (fitsIndex_both h1 h2) (by rw [List.size_toArray, <- hl]; exact hk) (by rw [<- Array.getElem?_toList]; exact hw) (by rw [List.size_toArray]; omega)) ⟨e, ?_⟩
  refine ⟨y, _, I.D1 (its' := its.eraseIdx k) hH e ?_ (r.eraseIdx k) ?_, rw', q⟩
  · show its.toArray.eraseIdxIfInBounds k = (its.eraseIdx k).toArray
    rw [List.eraseIdxIfInBounds_toArray]
  · have := p_ xs k
    omega
theorem len_rep {α : Type} (xs : List α) (k : Nat) : (List.replicate k xs).flatten.length = k * xs.length := by
  induction k with
  | zero => simp
  | succ k ih => rw [List.replicate_succ, List.flatten_cons, List.length_append, ih, Nat.succ_mul, Nat.add_comm]
end
end L2
namespace Att
open PySem PySem.W PySem.Calls PyProof.Rows
theorem mO {P : Params} {h : Heap} : ∀ (ns : List Int) (vs : List Value), WellAll P h vs (ns.map WData.int) -> IntsAre vs ns := by
  intro ns
  induction ns with
  | nil =>
    intro vs w
    rw [List.map_nil] at w
    cases w
    exact .nil
  | cons n ns ih =>
    intro vs w
    rw [List.map_cons] at w
    cases w with
    | cons a b =>
      cases a
      exact .cons _ _ (ih _ b)
theorem wj {l : OpenLaw} {n : Nat} (hn : l.most = some n) {P : Params} {h : Heap} {args : List WData} {vals : List Value}
    (hpre : l.row.toRowW.claim.pre args = true) (hwl : WellAll P h vals args) :
    ∃ a vs ns, vals = [Value.ref a] /\ args = [WData.list (ns.map WData.int)] /\ h.get? a = some { cls := .type "list", data := .seq vs.toArray } /\ IntsAre vs ns /\ ns.length <= n := by
  have hsh : WShape.hasAll [] args [.list .int] = true := (pre_splitW hpre).1
  have hc : l.pre.holds [] { args := args } = true := (pre_splitW hpre).2
  obtain ⟨d, r, rfl, h1, h2⟩ := hasAllW_cons hsh
  obtain rfl := hasAllW_nil h2
  obtain ⟨xs, rfl, h3⟩ := hasW_list h1
  obtain ⟨ns, rfl⟩ := items_int h3
  have hlen : ns.length <= n := by
    unfold OpenLaw.pre at hc
    have h4 : (WTm.not (.lt (.lit (.int (n : Int))) (.len (.arg 0)))).holds [] { args := [.list (ns.map .int)] } = true := by
      have h4 := (holds_andW hc).1
      rw [hn] at h4
      exact h4
    have h5 := condW_of h4 (w_not (w_lt w_lit (w_len_list (w_arg rfl))))
    rw [List.length_map] at h5
    refine Nat.le_of_not_lt fun q => ?_
    have q' : (n : Int) < ((ns.length : Nat) : Int) := by omega
    first
      | (rw [decide_eq_true q'] at h5; exact absurd h5 (by decide))
      | (simp at h5; omega)
  cases hwl with
  | cons w1 w2 =>
    cases w2
    cases w1 with
    | list ho hall => exact ⟨_, _, ns, rfl, rfl, ho, mO ns _ hall, hlen⟩
theorem we (l : OpenLaw) (args : List WData) : l.row.toRowW.claim.post args (.bool true) args = true :=
  postW_of (r := l.row.toRowW) (X := (true == true))
    (show WShape.has [] (.bool true) .bool = true by first | rfl | decide | simp [WShape.has, WShape.arms, WShape.armsAll])
    (show (WTm.eq .res (.lit (.bool true))).value [] { args := args, res := some (.bool true), after := args } = some (.bool (true == true)) from w_eq_bool (w_res rfl) w_lit) rfl
theorem tU {l : OpenLaw} {n : Nat} {q : Program} {loose : List Str} {XP : (Str -> Option Value) -> Heap -> Prop} {YP : World -> Heap -> Prop} {d : DefRec}
    (hn : l.most = some n) (hdf : d.params.defaults = [])
    (call : ∀ (w : World) (aM s₁ : Shared) (mg mb : Str -> Option Value) (fa : Addr) (o : Obj) (pm cd doc : Value) (a : Addr) (vs : List Value) (ns : List Int),
      Ground q loose [] XP w aM mg mb s₁.heap -> YP w s₁.heap →
      s₁.heap.get? fa = some o -> o.data = .func (docDef d.name d.params d.body d.scope pm cd doc) -> s₁.heap.CodeRec cd d.name -> mg d.name = some (.ref fa) →
      s₁.heap.get? a = some { cls := .type "list", data := .seq vs.toArray } -> IntsAre vs ns -> ns.length <= n -> s₁.gens = #[] →
      codeAny (model l.prog w) callerA (.call (.ref fa) ⟨[.ref a], []⟩) (fun r s' => r = .ok (.ret (.bool true)) /\ OldK s₁.heap s'.heap /\ s'.os = s₁.os /\ AllBare s'.gens) s₁) :
    WalkO q loose XP YP l.row.toRowW d [] (fun f vs => PySem.call f vs) := by
  intro w aM s₁ mg mb G Y fa o pm cd doc dV kV ho hd hcd hD hmg hg args vals as hpre hlay hrd hwl hlo
  obtain rfl : dV = .none := Dflts.none hD hdf
  obtain rfl : kV = .none := Dflts.noKw hD
  obtain ⟨a, vs, ns, rfl, rfl, hobj, hints, hlen⟩ := wj hn hpre hwl
  refine enter_call (codeAny_mono (call w aM s₁ mg mb fa o pm cd doc a vs ns G Y ho (fd_plain hd) hcd hmg hobj hints hlen hg) fun r s' hq => ?_)
  obtain ⟨rfl, h2, h3, h4⟩ := hq
  exact ⟨.inl ⟨.bool true, .bool true, [], rfl, fun _ => rfl, .bool true, we l _, fun _ => ⟨List.Pairwise.nil, fun _ hm => (nomatch hm)⟩⟩, h2, h3, h4⟩
end Att
namespace L2
open PySem PySem.Spec PyProof.Rows
theorem qg : ∀ {vs : List Value} {ns : List Int}, IntsAre vs ns -> Vals (ns.map V.int) vs
  | _, _, .nil => .nil
  | _, _, .cons n t h => .cons ⟨t, rfl⟩ (qg h)
noncomputable def E_ (H : Hp) : Prop := ∀ b, H b = none \/ ∃ o xs, H b = some (.frz o (.lst xs))
end L2
/- THE LAST THEOREM (shape; LID, My.* are yours):
   My.Adr: a structure of the addresses that your layer names (classes, functions); My.Txt K t: a structure (Prop) of the equations over K;
   My.txt_mk : {K} {implicit addresses ..} (e1 : nsIn K mainGlobals "law" = some (some (.ref f))) (e2 : K.lookup f = some ⟨oc, od, .func (fnOf "law" "law" params body scope dV kV doc pm an cdv ct), sl⟩) (e3 : codeIn K cdv "law" = true) .. : ∃ t, My.Txt K t
(the tactic k_is has no namespace: write k_is) -/
namespace L2
open PySem PySem.Spec PyProof.Rows
noncomputable def iw (s : Stmt) : Arguments := match s with
  | .FunctionDef _ a _ _ _ _ _ _ _ _ => a
  | _ => { posonlyargs := [], args := [], vararg := none, kwonlyargs := [], kw_defaults := [], kwarg := none, defaults := [] }
noncomputable def eB (s : Stmt) : List Stmt := match s with
  | .FunctionDef _ _ b _ _ _ _ _ _ _ => b
  | _ => []
noncomputable def ao (s : Stmt) : Scope := match s with
  | .FunctionDef _ _ _ _ _ _ sc _ _ _ => sc
  | _ => { kind := .function, names := [], isGenerator := false, isCoroutine := false }
noncomputable abbrev CX0 : CXT := fun _ _ _ _ _ _ => False
noncomputable abbrev E0 : XK := fun _ _ _ => False
theorem Eo {X : Cx} : Passes CX0 X E0 := fun _ _ _ _ _ _ _ h => h.elim
structure Fun (K : PySem.W.Frag) (x qual : Str) (st : Stmt) (f : Addr) (fd : FuncData) : Prop where
  ex : ∃ (oc : Value) (od : Option Addr) (kV doc pm : Value) (an : Option Addr) (cdv ct : Value) (osl : Array (Option Value)),
    fd = PySem.W.fnOf x qual (iw st) (eB st) (ao st) .none kV doc pm an cdv ct /\ K.lookup f = some ⟨oc, od, .func fd, osl⟩ /\ PySem.W.codeIn K cdv qual = true
  kp : PySem.W.keepIn K (.ref f) = true
section
variable {P : Program} {w : World} {K : PySem.W.Frag} {mg : Str -> Option Value} {base : Heap}
theorem Fun.ok {x qual : Str} {st : Stmt} {f : Addr} {fd : FuncData} {N ps : List Str} {k : Nat} {sp : Sp} (F : Fun K x qual st f fd) (S : aL N ps (ao st)) (len : ∀ vs H Q E, sp vs H Q E -> vs.length = ps.length)
    (hbody : ∀ (cdv : Value) (A : Around) (outer : List Env) (s : Shared) (H : Hp) (vs : List V) (Q : VK) (E : XK), fR k (A.deeper (envOfC qual (ao st) s.heap.objs.size f cdv)) -> sp vs H Q E →
      ∃ t, PSs (kj CX0 P w K mg base N qual (ao st) f cdv A outer s H E).nox (eB st) t /\ t { nx := fun _ H' => Q .non H', rt := Q } (start N vs) H) : eS P w K mg base CX0 (k + 1) f fd ps sp := by
  obtain ⟨oc, od, kV, doc, pm, an, cdv, ct, osl, rfl, lk, hcd⟩ := F.ex
  refine Dt lk hcd S len fun A outer s H vs Q E hr hsp => ?_
  obtain ⟨t, h, q⟩ := hbody cdv A outer s H vs Q E hr hsp
  exact ⟨t, h.nox, q⟩
theorem Fun.binds {x qual : Str} {st : Stmt} {f : Addr} {fd : FuncData} {ps : List Str} (F : Fun K x qual st f fd)
    (h : ∀ (kV doc pm : Value) (an : Option Addr) (cdv ct : Value) (us : List Value), us.length = ps.length -> bindArgs (PySem.W.fnOf x qual (iw st) (eB st) (ao st) .none kV doc pm an cdv ct) ⟨us, []⟩ = pure (ps.zip us)) : Binds K fd ps [] := by
  obtain ⟨oc, od, kV, doc, pm, an, cdv, ct, osl, rfl, lk, hcd⟩ := F.ex
  exact .all (h kV doc pm an cdv ct)
theorem y0 {x qual : Str} {st : Stmt} {f : Addr} {oc : Value} {od an : Option Addr} {osl : Array (Option Value)} {kV doc pm cdv ct : Value} (l : K.lookup f = some ⟨oc, od, .func (PySem.W.fnOf x qual (iw st) (eB st) (ao st) .none kV doc pm an cdv ct), osl⟩)
    (c : PySem.W.codeIn K cdv qual = true) (k : PySem.W.keepIn K (.ref f) = true) : Fun K x qual st f (PySem.W.fnOf x qual (iw st) (eB st) (ao st) .none kV doc pm an cdv ct) := ⟨⟨oc, od, kV, doc, pm, an, cdv, ct, osl, rfl, l, c⟩, k⟩
end
noncomputable def PTs (X : Cx) (ifs : List Expr) (t : TT) : Prop :=
  ∀ (pins : List (Addr × Obj)) (s : Shared) (σ : St) (H : Hp) (Q : Bool -> Hp -> Prop), Inv X pins σ H s -> t σ H Q →
    wpAny (model X.prog X.w) X.A (forIn ifs true fun c r => if r = true then do let ok ← isTrue c X.env (eval c X.env); pure (ForInStep.yield ok) else pure (ForInStep.yield r)) (TP X pins σ Q) X.xe s
noncomputable def Dx : TT := fun _ H Q => Q true H
theorem zW {X : Cx} : PTs X [] Dx := fun _ _ _ H _ I h => wpAny_tests_nil ⟨H, I, h⟩
theorem Bd {X : Cx} {c : Expr} {t : TT} (h : PT X c t) : PTs X [c] t := fun pins s σ H Q I q => wpAny_tests_one (h pins s σ H Q I q)
theorem t4 {prog : Program} {w : World} {A : Around} {R : Result -> Shared -> Prop} {s : Shared} {elt target iter : Expr} {ifs : List Expr} {scope : Scope} {pos : Pos} {it acc : Value} {env : Env} (I : Nat -> Shared -> Prop)
    (turn : ∀ n s, I n s -> wpAny (model prog w) A (pyNext it) (fun r s₁ => match r with
      | none => R (.ok .next) s₁
      | some v => wpAny (model prog w) A (letOwnedTupleGo target it v) (fun _ s₁ => wpAny (model prog w) A (assign target env v) (fun _ s₂ =>
          wpAny (model prog w) A (forIn ifs true fun c r => if r = true then do let ok ← isTrue c env (eval c env); pure (ForInStep.yield ok) else pure (ForInStep.yield r)) (fun ok s₃ =>
            if ok = true then wpAny (model prog w) A (eval elt env) (fun x s₄ =>
              wpAny (model prog w) A (call (.builtin "list.append") [acc, x]) (fun _ s₅ => ∃ m, m < n /\ I m s₅) (fun _ _ => False) s₄) (fun _ _ => False) s₃
            else ∃ m, m < n /\ I m s₃) (fun _ _ => False) s₂) (fun _ _ => False) s₁) (fun _ _ => False) s₁) (fun _ _ => False) s)
    (n : Nat) (h : I n s) :
    codeAny (model prog w) A (.compLoop (.ListComp elt [⟨target, iter, ifs, 0⟩] scope pos) 0 it acc env) R s := by
  refine codeAny_loop rfl I (fun n s hI => ?_) n h
  show wpAny _ A ((compTurn (.ListComp elt [⟨target, iter, ifs, 0⟩] scope pos) 0 it acc env).onRaise (fun x => do noteFrame x env; theTreesLotGoes x)) _ _ s
  refine wpAny_noted ?_
  rw [compTurn_list]
  refine wpAny_noRaise ?_
  refine wpAny_bind (wpAny_standAt (wpAny_bind (wpAny_mono (turn n s hI) (fun r s₁ h₁ => ?_) fun _ _ h' => h')))
  cases r with
  | none => exact wpAny_pure h₁
  | some v =>
    refine wpAny_bind (wpAny_mono h₁ (fun _ s₁' h₁' => ?_) fun _ _ h' => h')
    refine wpAny_bind (wpAny_mono h₁' (fun _ s₂ h₂ => wpAny_bind (wpAny_mono h₂ (fun ok s₃ h₃ => ?_) fun _ _ h' => h')) fun _ _ h' => h')
    cases ok with
    | false => exact wpAny_pure ⟨rfl, h₃⟩
    | true =>
      exact wpAny_bind (wpAny_bind (wpAny_mono h₃ (fun x s₄ h₄ => wpAny_bind (wpAny_mono h₄ (fun _ s₅ h₅ => wpAny_pure (wpAny_pure ⟨rfl, h₅⟩)) fun _ _ h' => h')) fun _ _ h' => h'))
noncomputable def cp (X : Cx) (scope : Scope) (cl : List (Str × Addr)) (C : Addr) (aM : Shared) (aU : Hp) (fp : List Addr) (N' : List Str) : Cx :=
  { X with N := N', aM := aM, aU := aU, env := compEnvC scope cl C X.env, outer := X.stack, ex := fp, fn := fun _ => false, pn := [] }
theorem kn {env : Env} : ∀ (names : List (Str × NameKind)) (cs : List (Str × Addr)), (∀ y ∈ names, y.2 = .free -> ∃ a, env.cells.lookup y.1 = some a) -> (∀ x c, cs.lookup x = some c -> env.cells.lookup x = some c) →
    ∃ cl : List (Str × Addr), (forIn names cs fun (y : Str × NameKind) (r : List (Str × Addr)) => if (y.2 == NameKind.free) = true then do let a ← cellOf env y.1; pure (ForInStep.yield ((y.1, a) :: r)) else pure (ForInStep.yield r) : Sem (List (Str × Addr))) = pure cl ∧
      (∀ x c, cl.lookup x = some c -> env.cells.lookup x = some c) /\ (∀ x, ((x, NameKind.free) ∈ names \/ ∃ c, cs.lookup x = some c) -> ∃ c, cl.lookup x = some c)
  | [], cs, _, h => ⟨cs, rfl, h, fun x hx => by
      rcases hx with z | z
      · cases z
      · exact z⟩
  | (n, k) :: r, cs, hf, h => by
    by_cases hk : k = .free
    · subst hk
      obtain ⟨a, ha⟩ := hf (n, .free) (by simp) rfl
      obtain ⟨cl, e, h1, h2⟩ := kn r ((n, a) :: cs) (fun y hy => hf y (List.mem_cons_of_mem _ hy)) (fun x c q => by
        rw [List.lookup_cons] at q
        cases hx : x == n with
        | true =>
          rw [hx] at q
          have : x = n := by simpa using hx
          subst this
          cases q; exact ha
        | false => rw [hx] at q; exact h x c q)
      refine ⟨cl, ?_, h1, fun x hx => ?_⟩
      · rw [List.forIn_cons]
        have e0 : cellOf env n = pure a := by unfold cellOf; rw [ha]
        simp only [beq_self_eq_true, if_true, e0]
        exact e
      · have hc : ∀ z c, cs.lookup z = some c -> ∃ c, ((n, a) :: cs).lookup z = some c := fun z c q => by
          rw [List.lookup_cons]
          cases z == n with
          | true => exact ⟨a, rfl⟩
          | false => exact ⟨c, q⟩
        rcases hx with z | ⟨c, z⟩
        · rcases List.mem_cons.mp z with q | q
          · cases q
            exact h2 n (.inr ⟨a, by simp [List.lookup_cons]⟩)
          · exact h2 x (.inl q)
        · exact h2 x (.inr (hc x c z))
    · obtain ⟨cl, e, h1, h2⟩ := kn r cs (fun y hy => hf y (List.mem_cons_of_mem _ hy)) h
      have hb : (k == NameKind.free) = false := by simpa using hk
      refine ⟨cl, ?_, h1, fun x hx => ?_⟩
      · rw [List.forIn_cons]
        simp only [hb, Bool.false_eq_true, if_false]
        exact e
      · rcases hx with z | z
        · rcases List.mem_cons.mp z with q | q
          · cases q; exact absurd rfl hk
          · exact h2 x (.inl q)
        · exact h2 x (.inr z)
theorem pE {env : Env} {scope : Scope} (h : ∀ y ∈ scope.names, y.2 = .free -> ∃ a, env.cells.lookup y.1 = some a) :
    ∃ cl : List (Str × Addr), closureFor scope env = pure cl /\ (∀ x c, cl.lookup x = some c -> env.cells.lookup x = some c) /\ (∀ x, (x, NameKind.free) ∈ scope.names -> ∃ c, cl.lookup x = some c) := by
  obtain ⟨cl, e, h1, h2⟩ := kn (env := env) scope.names [] h (fun x c q => by cases q)
  refine ⟨cl, ?_, h1, fun x hx => h2 x (.inl hx)⟩
  exact Eq.trans (congrArg (fun t : Sem (List (Str × Addr)) => t >>= fun cs => pure cs) e) rfl
theorem lookup_mem {x : Str} {k : NameKind} : ∀ {names : List (Str × NameKind)}, names.lookup x = some k -> (x, k) ∈ names
  | [], h => by cases h
  | (n, j) :: r, h => by
    rw [List.lookup_cons] at h
    cases hx : x == n with
    | true =>
      rw [hx] at h
      have : x = n := by simpa using hx
      subst this
      cases h; simp
    | false => rw [hx] at h; exact List.mem_cons_of_mem _ (lookup_mem h)
theorem fP {env : Env} (hf : env.scope.kind = .function) : ∀ {names : List (Str × NameKind)} {x : Str}, names.lookup x = some .free -> env.kindOf x = some .cell →
    (names.map fun (n, k) => if (k == NameKind.free && env.scope.kind == .function && env.kindOf n == some .cell) then (n, NameKind.cell) else (n, k)).lookup x = some .cell
  | [], _, h, _ => by cases h
  | (n, k) :: r, x, h, hc => by
    have ih := @fP env hf r x
    show List.lookup x ((if (k == NameKind.free && env.scope.kind == .function && env.kindOf n == some .cell) = true then (n, NameKind.cell) else (n, k)) :: _) = _
    cases hx : x == n with
    | true =>
      have : x = n := by simpa using hx
      subst this
      simp only [List.lookup_cons, hx] at h
      cases h
      rw [if_pos (by simp [hf, hc])]
      simp [List.lookup_cons]
    | false =>
      simp only [List.lookup_cons, hx] at h
      by_cases hq : (k == NameKind.free && env.scope.kind == .function && env.kindOf n == some .cell) = true
      · rw [if_pos hq]; simp only [List.lookup_cons, hx]; exact ih h hc
      · rw [if_neg hq]; simp only [List.lookup_cons, hx]; exact ih h hc
theorem iy {env : Env} : ∀ {names : List (Str × NameKind)} {x : Str} {k : NameKind}, (names.map fun (n, k) => if (k == NameKind.free && env.scope.kind == .function && env.kindOf n == some .cell) then (n, NameKind.cell) else (n, k)).lookup x = some k →
    names.lookup x = some k \/ (names.lookup x = some .free /\ k = .cell)
  | [], _, _, h => by cases h
  | (n, j) :: r, x, k, h => by
    have ih := @iy env r x k
    have h' : List.lookup x ((if (j == NameKind.free && env.scope.kind == .function && env.kindOf n == some .cell) = true then (n, NameKind.cell) else (n, j)) :: (r.map fun (n, k) => if (k == NameKind.free && env.scope.kind == .function && env.kindOf n == some .cell) then (n, NameKind.cell) else (n, k))) = some k := h
    by_cases hq : (j == NameKind.free && env.scope.kind == .function && env.kindOf n == some .cell) = true
    · rw [if_pos hq] at h'
      have hj : j = .free := by
        have := Bool.and_eq_true_iff.mp (Bool.and_eq_true_iff.mp hq).1
        simpa using this.1
      simp only [List.lookup_cons] at h' ⊢
      cases hx : x == n with
      | true => rw [hx] at h'; cases h'; exact .inr ⟨by rw [hj], rfl⟩
      | false => rw [hx] at h'; exact ih h'
    · rw [if_neg hq] at h'
      simp only [List.lookup_cons] at h' ⊢
      cases hx : x == n with
      | true => rw [hx] at h'; cases h'; exact .inl rfl
      | false => rw [hx] at h'; exact ih h'
noncomputable def nB (ix : List Nat) (σ : St) : St := none :: ix.map fun i => (σ[i]?).join
noncomputable abbrev Ep (J : It) (tt : TT) (te : TE) (σ' : V -> St) (acc : Addr) (H1 : Hp) (Q : VK) : Prop :=
  ∃ W : Nat -> Nat -> List V -> Hp -> Prop, (∃ m, W 0 m [] (upd H1 acc (.lst []))) /\ ∀ i m ys H, W i m ys H →
    (J.stop i H /\ Q (.ref acc) H) \/ (J.go i H /\ ∀ x H', J.yld i H x H' -> tt (σ' x) H' fun b H2 => if b = true then te (σ' x) H2 fun y H3 =>
        H3 acc = some (.lst ys) /\ ys.length < sizeLine /\ ∃ m', m' < m /\ W (i + 1) m' (ys ++ [y]) (upd H3 acc (.lst (ys ++ [y])))
      else ∃ m', m' < m /\ W (i + 1) m' ys H2)
noncomputable def Bt (wi : TI) (ix : List Nat) (tt : TT) (te : TE) : TE := fun σ H Q => wi σ H fun J H1 => ∀ acc, H1 acc = none -> Ep J tt te (fun x => (nB ix σ).set 0 (some x)) acc H1 Q
theorem HOk.sameBut {P : Program} {w : World} {H : Hp} {h h' : Heap} {C : Addr} (x : HOk P w H h) (hn : H C = none) (k : ∀ b u, b ≠ C -> h.get? b = some u -> h'.get? b = some u) : HOk P w H h' := fun b u e => by
  have nC : ∀ b u, H b = some u -> b ≠ C := fun b u e z => by rw [z, hn] at e; cases e
  refine (x b u e).lC (fun c v hc q => k c v ?_ q) (fun _ q => q) fun _ _ q => q
  rcases hc with z | z
  · rw [z]; exact nC b u e
  · exact nC c _ z
theorem tK : isSubtype (.type "tuple") (.type "set") = pure false := by rw [isSubtype_type]; kernel_rfl
theorem r8 : isSubtype (.type "tuple") (.type "frozenset") = pure false := by rw [isSubtype_type]; kernel_rfl
noncomputable abbrev fT (led : Bool) : Obj := { cls := .type "set", dict := none, data := .set #[] 0 (.fresh 0 0 led) }
set_option maxHeartbeats 3200000 in
theorem set_tuple {prog : Program} {w : World} {B : Around} {Er : Value -> Shared -> Prop} {z : Shared} {a : Addr} {its : Array Value} {zs : List Int} {Q : Value -> Shared -> Prop}
    (hh : B.handled = none) (ht : z.heap.IsTuple a its) (hi : IntsAre its.toList zs) (hb : its.size + 1 < scanBound)
    (fin : ∀ (g' : Heap) (tk : Nat), g'.SetOf (intKind prog w) z.heap.objs.size (fun k' => (firstMet (fun i => zs.getD i 0) its.size).any (· == k')) (firstMet (fun i => zs.getD i 0) its.size).length →
      (∀ b o, b < z.heap.objs.size -> z.heap.get? b = some o -> g'.get? b = some o) -> Q (.ref z.heap.objs.size) { z with heap := g', toks := tk }) :
    wpAny (model prog w) B (call (.type "set") [.ref a]) Q Er z := by
  obtain ⟨_, _, _⟩ := F.called_set.mro
  have := F.called_set.made
  have := F.called_set.sub
  refine wpAny_call (codeAny_of_tree ?_)
  show wpAny _ _ (callAny (.type "set") _) _ _ _
  refine wpAny_pure ⟨Code.quiet_builtin _ (by decide +kernel), codeAny_builtin F.entry_type_call ?_⟩
  rw [Around.under_plain (weight_type_call_type "set" [.ref a] []) rfl]
  have := F.called_set.notType
  have := F.called_set.canCreate
  have := F.typeCall_set_1 (.ref a)
  repeat (any_goals (first | assumption | wp_step))
  refine codeAny_mono (code_set_new_1 (.ref a) (E := Er) (Q₁ := fun v y => ∃ led : Bool, v = .ref z.heap.objs.size /\ y = { z with heap := z.heap.push (fT led) }) fun led => ⟨led, rfl, rfl⟩) fun r y hr => ?_
  cases r with
  | error e => exact hr
  | ok fl =>
    cases fl with
    | ret v =>
      obtain ⟨led, rfl, rfl⟩ := hr
      have hS : (z.heap.push (fT led)).get? z.heap.objs.size = some (fT led) := Heap.get?_push_size _ rfl
      have hT : Shared.TypeIs { z with heap := z.heap.push (fT led) } (.ref z.heap.objs.size) "set" := ⟨_, hS, rfl⟩
      have := F.called_set.init.lookup
      have := F.called_set.init.bind (.ref z.heap.objs.size)
      repeat (any_goals (first | assumption | wp_step))
      refine codeAny_mono (codeAny_call_builtin (R := wants (fun r y => r = .none /\ ∃ g' tk, y = { z with heap := g', toks := tk } ∧
          g'.SetOf (intKind prog w) z.heap.objs.size (fun k' => (firstMet (fun i => zs.getD i 0) its.size).any (· == k')) (firstMet (fun i => zs.getD i 0) its.size).length ∧
          (∀ b o, b < z.heap.objs.size -> z.heap.get? b = some o -> g'.get? b = some o)) Er) F.called_set.init.plain F.entry_set_init (check_set_init_1 hT ?_)) fun r₂ y₂ hr₂ => ?_
      · obtain ⟨ol, hol, hcl, nl, hdl⟩ := id ht
        obtain ⟨oc, od, oda, osl⟩ := ol
        simp only at hcl hdl
        subst hcl; subst hdl
        have hol' : (z.heap.push (fT led)).get? a = some { cls := .type "tuple", dict := od, data := .seq its nl, slots := osl } := Heap.get?_push_of_some _ hol
        have := tK
        have := r8
        have : (Value.type "tuple" == Value.type "dict") = false := by decide
        have ht1 : (z.heap.push (fT led)).IsTuple a its := ⟨_, hol', rfl, nl, rfl⟩
        unfold Builtin.«set.__init__» noKeywords Builtin.Frozenset.updateFrom
        generalize hPI : pyIter = PI
        wp_walk
        subst hPI
        refine wpAny_pyIter_tuple ht1 ?_
        refine wpAny_bind (wpAny_runValue ?_)
        have hlS : a < z.heap.objs.size := Heap.lt_size hol
        have hneI : a ≠ (z.heap.push (fT led)).objs.size := by
          rw [Heap.size_push]; exact Nat.ne_of_lt (Nat.lt_succ_of_lt hlS)
        have hSf : z.heap.objs.size ∉ [(z.heap.push (fT led)).objs.size, a] := by
          rw [Heap.size_push]; simp only [List.mem_cons, List.mem_singleton, List.not_mem_nil, or_false, not_or]
          exact ⟨Nat.ne_of_lt (Nat.lt_succ_self _), Nat.ne_of_gt hlS⟩
        have hval : ∀ (i : Nat) (v : Value), its[i]? = some v -> ∃ t, v = .int ((fun i => zs.getD i 0) i) t := fun i v hv => IntsAre.int_at hi i v (by rw [Array.getElem?_toList]; exact hv)
        refine codeAny_set_update_loopS ((Walks.tuple (by simp [hh]) _ a hneI its).toS) z.heap.objs.size
          hSf (fun i => zs.getD i 0) hval hb (its.size - 0) 0 _ (by omega) (Nat.zero_le _)
          ⟨⟨_, Heap.get?_push_size _ rfl, rfl, rfl⟩, ?hP⟩ ?hS0 ?hR
        case hP => exact ⟨_, Heap.get?_push_of_some _ hol', rfl, nl, rfl⟩
        case hS0 =>
          exact SetOf_congr ((setObjOf_fresh (knd := intKind prog w) led).setOf (Heap.get?_push_of_some _ hS) (by unfold scanBound; omega)) (fun _ => rfl) rfl
        case hR =>
          intro s' hm hS'
          obtain ⟨h', g', d', tk', os'⟩ := s'
          obtain rfl : g' = z.gens := hm.gens
          obtain rfl : d' = z.drawn := hm.drawn
          obtain rfl : os' = z.os := hm.os
          show wpAny _ _ _ _ _ _
          refine wpAny_pure ?_
          show wpAny _ _ (ret Value.none) _ _ _
          refine wpAny_pure ⟨rfl, h', tk', rfl, hS', fun b o hb e => ?_⟩
          refine hm.heap b o ?_ (Heap.get?_push_of_some _ (Heap.get?_push_of_some _ e))
          simp only [List.mem_cons, List.mem_singleton, List.not_mem_nil, or_false, not_or]
          refine ⟨Nat.ne_of_lt hb, ?_⟩
          show b ≠ (z.heap.push (fT led)).objs.size
          rw [Heap.size_push]; exact Nat.ne_of_lt (Nat.lt_succ_of_lt hb)
      · cases r₂ with
        | error e => exact hr₂
        | ok fl₂ =>
          cases fl₂ with
          | ret r =>
            obtain ⟨rfl, g', tk, rfl, hS', hk'⟩ := hr₂
            repeat (any_goals (first | assumption | wp_step))
            exact fin _ _ hS' hk'
          | _ => exact hr₂.elim
    | _ => exact hr.elim
section
variable {X : Cx}
theorem tV : dj X (.builtin "isinstance") (fun vs H Q => ∃ x t n b, vs = [x, .ty n] /\ km X.K H x t /\ PySem.W.kitOne X.K t (.type n) = some b /\ Q (.bl b) H) := by
  intro pins s σ H xs us Q I r h
  obtain ⟨x, t, n, b, rfl, ty, e, q⟩ := h
  obtain ⟨u, w', rfl, r1, r2⟩ := vals2 r
  cases r2
  exact wQ I r1 ty e fun tk => ⟨.bl b, H, I.tok tk, rfl, q⟩
noncomputable def unl (ns : List Int) : List Int := firstMet (fun i => ns.getD i 0) ns.length
theorem kE (hc : X.calm = true) : dj X (.type "set") (fun vs H Q => ∃ p ns, vs = [.ref p] /\ SqT X.K H p (ns.map V.int) /\ ns.length + 1 < scanBound /\ ∀ l, H l = none -> Q (.ref l) (upd H l (.set (fun k => (unl ns).any (· == k)) (unl ns).length))) := by
  intro pins s σ H xs us Q I r h
  obtain ⟨p, ns, rfl, hq, hb, q⟩ := h
  obtain ⟨u, rfl, rx⟩ := vals1 r
  cases rx
  obtain ⟨its, r', pl, hz⟩ := I.tuple hq
  have hlen := r'.length
  rw [List.length_map] at hlen
  have e0 : its.toArray.size = ns.length := by rw [List.size_toArray, hlen]
  refine set_tuple (I.ok.hd hc) (show s.heap.IsTuple p its.toArray from pl) (zs := ns) (by simpa using intsAre_of r') (by rw [e0]; exact hb) fun g' tk hS hk => ?_
  rw [e0] at hS
  exact ⟨.ref s.heap.objs.size, _, I.laid (t' := tk) (fun b o e => hk b o (Heap.lt_size e) e) (Nat.le_refl _) (show cP X.prog X.w _ g' _ (.set _ _) from hS), rfl, q _ (I.hok.fresh (Nat.le_refl _))⟩
theorem pD : dj X (.builtin "len") (fun vs H Q => ∃ p S n, vs = [.ref p] /\ H p = some (.set S n) /\ Q (.int n) H) := by
  intro pins s σ H xs us Q I r h
  obtain ⟨p, S, n, rfl, hH, q⟩ := h
  obtain ⟨u, rfl, rx⟩ := vals1 r
  cases rx
  obtain ⟨o, es, ep, tb, ho, hex, hd, hel, hmem, hsz, hfit, rfl⟩ := (show s.heap.SetOf (intKind X.prog X.w) p S n from I.hok p _ hH)
  have hb : (es.size : Int) < 2 ^ 63 := by unfold scanBound at hsz; omega
  exact PySem.call_len_set ho hex hd hfit hb ⟨.int es.size, H, I.tok _, ⟨_, rfl⟩, q⟩
theorem jE {prog : Program} {w : World} {A : Around} {E : Value -> Shared -> Prop} {s : Shared} {t sl : Addr} {items : Array Value} {vl vu : Value} {lo hi : Option Int} {Q : Value -> Shared -> Prop} (ht : IsTup s.heap t items) (hs : s.heap.IsSliceOf sl vl vu .none) (pl : IsPart vl lo) (pu : IsPart vu hi)
    (h1 : HT.sIx items.size 0 lo = 0) (h2 : HT.sIx items.size items.size hi = items.size) (h : Q (.ref t) s) : wpAny (model prog w) A (getItem (.ref t) (.ref sl)) Q E s := by
  obtain ⟨os, hos, hcs, hds⟩ := id hs
  have hTs : s.TypeIs (.ref sl) "slice" := ⟨os, hos, hcs⟩
  unfold getItem
  try with_reducible refine wpAny_holding ?_
  first | refine wpAny_bind (wpAny_pure ?_) | skip
  refine wpAny_bind (wpAny_sequenceKey ht.typeIs (by decide) ?_)
  refine wpAny_bind (wpAny_callSpecial?_slot (name := Str.ofString "__getitem__") ht.typeIs PyProof.Rows.slot_tuple_getitem (wpAny_call_entry PyProof.Rows.slot_tuple_getitem ht.typeIs entry_tuple_getitem ?_ (args_tuple_getitem _ _)))
  show wpAny _ _ (Builtin.Tuple.tupleItemsOf (.ref t) >>= _) _ _ s
  refine wpAny_bind (tupleItemsOf_ ht (wpAny_bind (wpAny_typeOf hTs ?_)))
  rw [if_pos (by decide)]
  refine wpAny_bind (HT.gZ hs pl pu ?_)
  rw [h1, h2]
  show wpAny _ _ (if (((0 : Nat) : Int) == 0 && (1 : Int) == 1 && (items.size - 0) == items.size) = true then _ else _) _ _ s
  rw [if_pos (by simp)]
  show wpAny _ _ (Builtin.Tuple.tupleIsExact (.ref t) >>= _) _ _ s
  unfold Builtin.Tuple.tupleIsExact
  refine wpAny_bind (wpAny_bind (wpAny_typeOf ht.typeIs (wpAny_pure ?_)))
  show wpAny _ _ (if (Value.type "tuple" == Value.type "tuple") = true then _ else _) _ _ s
  rw [if_pos (by decide)]
  refine wpAny_bind (wpAny_rule ?_)
  first
    | exact wpAny_pure ⟨_, rfl, wpAny_pure h⟩
    | exact wpAny_bind (wpAny_pure (wpAny_pure ⟨_, rfl, wpAny_pure h⟩))
noncomputable def D0 (K : PySem.W.Frag) : V -> Option Int -> Option Int -> Hp -> VK -> Prop := fun x lo hi H Q => ∃ a xs, x = .ref a /\ SqT K H a xs /\ HT.sIx xs.length 0 lo = 0 /\ HT.sIx xs.length xs.length hi = xs.length /\ Q (.ref a) H
theorem Aj : SlR X (D0 X.K) := by
  intro pins s σ H x v vl vu lo hi sl Q I rx hs pl pu h
  obtain ⟨a, xs, rfl, hx, h1, h2, q⟩ := h
  cases rx
  obtain ⟨its, r, ht, hz⟩ := I.tuple hx
  have hlen : its.toArray.size = xs.length := by rw [List.size_toArray]; exact r.length.symm
  refine ⟨"tuple", _, PyProof.Rows.slot_tuple_getitem.lookup, ht.typeIs, ?_⟩
  exact jE ht hs pl pu (by rw [hlen]; exact h1) (by rw [hlen]; exact h2) ⟨.ref a, H, I, rfl, q⟩
noncomputable def yN (K : PySem.W.Frag) : R2 := fun x y H Q => ∃ a b ys, x = .ref a /\ y = .ref b /\ SqT K H a [] /\ SqT K H b ys /\ Q (.ref b) H
theorem xB : OpR X (binaryOp .Add) (yN X.K) := by
  intro pins s σ H x y v u Q I rx ry h
  obtain ⟨a, b, ys, rfl, rfl, ha, hb, q⟩ := h
  cases rx
  cases ry
  obtain ⟨its, r1, p1, _⟩ := I.tuple ha
  obtain ⟨its2, r2, p2, _⟩ := I.tuple hb
  cases r1
  obtain ⟨⟨cls, dd, data, sl⟩, ho, hc, n, hd⟩ := id p1
  obtain ⟨⟨cls2, dd2, data2, sl2⟩, ho2, hc2, n2, hd2⟩ := id p2
  simp only at hc hd hc2 hd2
  subst hc hd hc2 hd2
  exact concat_meets ⟨_, ho, rfl⟩ ⟨_, ho2, rfl⟩ noFill_tuple_add seq_tuple_add PySem.F.slot_tuple_add PySem.F.entry_tuple_add (PySem.F.args_tuple_add_2 _ _)
    (tuple_addW0 a b _ _ n n2 dd dd2 sl sl2 (by simp)) ⟨ho, ho2, ⟨.ref b, H, I, rfl, q⟩⟩
end
open AutoSeq1 (wpAny_loadPart')
noncomputable def rO (a : Addr) (lo hi st : Int) : HO := .ext fun h => ∃ t u v, h.get? a = some { cls := .type "range", data := .fields #[.int lo t, .int hi u, .int st v] }
noncomputable def sQ (lo st : Int) (n : Nat) : List Int := (List.range n).map fun (i : Nat) => lo + (i : Int) * st
theorem tF (lo st : Int) (n : Nat) : (sQ lo st n).length = n := by simp [sQ]
theorem uM {lo st : Int} {n : Nat} {acc : Array Value} (h : ItemsOf (fun i v => ∃ t, v = .int (lo + i * st) t) acc n) : Vals ((sQ lo st n).map V.int) acc.toList := by
  obtain ⟨hs, hv⟩ := h
  have key : ∀ (l : List Value) (k : Nat), (∀ j v, l[j]? = some v -> ∃ t, v = Value.int (lo + ((k + j : Nat) : Int) * st) t) -> Vals (((List.range' k l.length).map fun (i : Nat) => lo + (i : Int) * st).map V.int) l := by
    intro l
    induction l with
    | nil => intro k _; exact .nil
    | cons a r ih =>
      intro k hk
      rw [List.length_cons, List.range'_succ, List.map_cons, List.map_cons]
      refine .cons ?_ (ih (k + 1) fun j v e => ?_)
      · obtain ⟨t, q⟩ := hk 0 a rfl
        exact ⟨t, by rw [q]; simp⟩
      · obtain ⟨t, q⟩ := hk (j + 1) v (by simpa using e)
        exact ⟨t, by rw [q]; congr 3; omega⟩
  have := key acc.toList 0 fun j v e => by
    obtain ⟨t, q⟩ := hv j v (by simpa using e)
    exact ⟨t, by rw [q]; simp⟩
  unfold sQ
  rw [List.range_eq_range', <- hs]
  simpa using this
section
variable {X : Cx}
theorem Inv.rng {pins : List (Addr × Obj)} {σ : St} {H : Hp} {s : Shared} {lo hi st : Int} {t u v : Tok} {tk : Nat} (I : Inv X pins σ H s) :
    Inv X pins σ (upd H s.heap.objs.size (rO s.heap.objs.size lo hi st)) { s with heap := s.heap.push { cls := .type "range", data := .fields #[.int lo t, .int hi u, .int st v] }, toks := tk } := by
  refine I.laid (fun b o e => Heap.get?_push_of_some _ e) (Nat.le_refl _) ?_
  refine ⟨⟨t, u, v, Heap.get?_push_size _ rfl⟩, ⟨_, Heap.get?_push_size _ rfl⟩, fun h1 h2 ⟨a, b, c, e⟩ k => ⟨a, b, c, k _ e⟩⟩
theorem wV : dj X (.type "range") (fun vs H Q => ∃ j, vs = [.int j] /\ ∀ p, H p = none -> Q (.ref p) (upd H p (rO p 0 j 1))) := by
  intro pins s σ H xs us Q I r h
  obtain ⟨j, rfl, q⟩ := h
  obtain ⟨u, rfl, t, rfl⟩ := vals1 r
  exact call_range_1 ⟨.ref _, _, I.rng, rfl, q _ (I.hok.fresh (Nat.le_refl _))⟩
theorem xf : dj X (.type "range") (fun vs H Q => ∃ i j, vs = [.int i, .int j] /\ ∀ p, H p = none -> Q (.ref p) (upd H p (rO p i j 1))) := by
  intro pins s σ H xs us Q I r h
  obtain ⟨i, j, rfl, q⟩ := h
  obtain ⟨u, w', rfl, ⟨t, rfl⟩, ⟨t', rfl⟩⟩ := vals2 r
  exact call_range_2 ⟨.ref _, _, I.rng, rfl, q _ (I.hok.fresh (Nat.le_refl _))⟩
structure vp (lo hi st : Int) (n : Nat) : Prop where
  sm : Builtin.Range.small lo hi st = true
  sz : Builtin.Range.rangeSize lo hi st = n
  le : n <= 2 ^ 20
theorem Inv.DE {pins : List (Addr × Obj)} {σ : St} {H : Hp} {s : Shared} {p : Addr} {lo hi st : Int} (I : Inv X pins σ H s) (h : H p = some (rO p lo hi st)) : ∃ t u v, IsRange s.heap p lo hi st t u v := by
  obtain ⟨⟨t, u, v, e⟩, _⟩ := I.hok p _ h
  exact ⟨t, u, v, e⟩
theorem pA (hc : X.calm = true) : dj X (.type "list") (fun vs H Q => ∃ p lo hi st n, vs = [.ref p] /\ H p = some (rO p lo hi st) /\ vp lo hi st n /\ ∀ l, H l = none -> Q (.ref l) (upd H l (.lst ((sQ lo st n).map V.int)))) := by
  intro pins s σ H xs us Q I r h
  obtain ⟨p, lo, hi, st, n, rfl, hp, ok, q⟩ := h
  obtain ⟨u, rfl, rx⟩ := vals1 r
  cases rx
  obtain ⟨t, u, v, hr⟩ := I.DE hp
  have hn := ok.le
  refine call_list_range (I.ok.hd hc) hr ok.sm ok.sz (by omega) fun h' tk acc c kp e hi => ?_
  have hv := uM hi
  refine ⟨.ref s.heap.objs.size, _, I.laid (t' := tk) kp (Nat.le_refl _) (show cP X.prog X.w _ h' _ (.lst _) from ⟨?_, acc.toList, c, hv, by simpa using e⟩), rfl, q _ (I.hok.fresh (Nat.le_refl _))⟩
  rw [List.length_map, tF, sizeLine_eq]; omega
end
section
variable {X : Cx}
theorem xx {a b : Int} (h1 : -1000000 <= a) (h2 : a <= 1000000) (h3 : -1000000 <= b) (h4 : b <= 1000000) (h : b - a <= 1000000) : vp a b 1 (b - a).toNat :=
  ⟨small_one (by omega) (by omega) (by omega) (by omega), by rw [rangeSize_one]; split <;> omega, by omega⟩
theorem Vals.get' {xs : List V} {us : List Value} {i : Nat} {u : Value} (r : Vals xs us) (h : us[i]? = some u) : ∃ x, xs[i]? = some x /\ RelV x u := by
  have hl := r.length
  have hi : i < xs.length := by rw [hl]; exact (List.getElem?_eq_some_iff.mp h).1
  obtain ⟨u', e1, e2⟩ := r.get (List.getElem?_eq_getElem hi)
  rw [h] at e1; cases e1
  exact ⟨_, List.getElem?_eq_getElem hi, e2⟩
end
theorem pT {ns : List Int} (h : ns.Nodup) : (unl ns).length = ns.length := by
  have key : ∀ (l acc : List Int), (acc ++ l).Nodup -> l.foldl step_dedup acc = acc ++ l := by
    intro l
    induction l with
    | nil => intro acc _; simp
    | cons a r ih =>
      intro acc hn
      have h1 : a ∉ acc := by
        have := List.nodup_append.mp hn
        exact fun hm => this.2.2 a hm a (by simp) rfl
      have e : step_dedup acc a = acc ++ [a] := by
        unfold step_dedup
        have : acc.any (· == a) = false := by
          rw [Bool.eq_false_iff]
          intro z
          obtain ⟨x, hx, e⟩ := List.any_eq_true.mp z
          have : x = a := by simpa using e
          exact h1 (this ▸ hx)
        simp [this]
      rw [List.foldl_cons, e, ih (acc ++ [a]) (by rw [List.append_assoc]; exact hn), List.append_assoc]
      rfl
  have e : (List.range ns.length).map (fun i => ns.getD i 0) = ns := by
    apply List.ext_getElem
    · simp
    · intro i h1 h2
      simp [List.getD_eq_getElem?_getD, List.getElem?_eq_getElem h2]
  unfold unl firstMet
  rw [e, key ns [] (by simpa using h)]
  rfl
theorem Inv.Eg {X : Cx} {pins : List (Addr × Obj)} {σ : St} {H : Hp} {s : Shared} {C : Addr} {o : Obj} {h' : Heap} (I : Inv X (pins ++ [(C, o)]) σ H s) (cC : ∀ x c, X.env.cells.lookup x = some c -> c ≠ C) (hC : X.aM.heap.objs.size <= C) (pC : ∀ p ∈ X.pn ++ pins, p.1 ≠ C) (hs : Heap.SameBut C s.heap h') : Inv X pins σ H { s with heap := h' } := by
  have kb : ∀ b u, b ≠ C -> s.heap.get? b = some u -> h'.get? b = some u := fun b u hb z => hs.extBut b u hb z
  obtain ⟨q0, q1, q2, q3, q4⟩ := I.pin (C, o) (List.mem_append_right _ (List.mem_append_right _ (List.mem_singleton.mpr rfl)))
  have J : Inv X pins σ H s := I.m_ fun p hp => I.pin p (List.mem_append_right _ (List.mem_append_left _ hp))
  refine J.vN (s' := { s with heap := h' }) (ch := [C]) rfl ⟨fun b u z n a c => kb b u (fun e => c (by rw [e]; exact List.mem_singleton.mpr rfl)) z, fun b u z n a c => ⟨u.slots, kb b _ (fun e => c (by rw [e]; exact List.mem_singleton.mpr rfl)) z⟩, fun b u z n c => n, fun b u z c => ⟨u, kb b u (fun e => c (by rw [e]; exact List.mem_singleton.mpr rfl)) z⟩, fun b xs z => z, fun b ob u z => z, fun b ps z => ⟨#[], by simpa using z⟩⟩ (J.hok.sameBut q1 kb) J.bare fun b hb => ?_
  have e := List.mem_singleton.mp hb
  subst e
  exact ⟨.inr hC, q2, fun x c z => cC x c z, pC⟩
section
variable {prog : Program} {w : World} {A : Around} {E : Value -> Shared -> Prop} {s : Shared}
theorem iE {it t : Addr} {i : Nat} {its : Array Value} {x : Value} {Q : Value -> Shared -> Prop} (hi : s.heap.IsTupleIter it t i) (ht : s.heap.IsTuple t its) (hx : its[i]? = some x) (hQ : ∀ h', h'.IsTupleIter it t (i + 1) -> Heap.SameBut it s.heap h' -> Q x { s with heap := h' }) :
    wpAny (model prog w) A (Builtin.SmallTypes.nextOf (.ref it)) Q E s := by
  obtain ⟨oi, h1, h2, h3⟩ := id hi
  obtain ⟨ot, k1, _, nt, k2⟩ := ht
  unfold Builtin.SmallTypes.nextOf
  refine wpAny_bind (wpAny_callSpecial?_slot (name := Str.ofString "__next__") hi.typeIs F.slot_tuple_iterator_next (wpAny_call_entry F.slot_tuple_iterator_next hi.typeIs F.entry_tuple_iterator_next ?_ (F.args_tuple_iterator_next_1 _)))
  refine wpAny_bind (m := field (.ref it) 0) (wpAny_field h1 h3 (x := .ref t) rfl ?_)
  show wpAny _ _ (if (Value.ref t == Value.none) = true then _ else field (.ref it) 1 >>= _) _ _ s
  rw [if_neg (show ¬ ((Value.ref t == Value.none) = true) from Bool.false_ne_true)]
  refine wpAny_bind (wpAny_field h1 h3 (x := .int i 0) rfl (wpAny_bind (m := seqItems? (.ref t)) (wpAny_seqItems k1 k2 ?_)))
  simp only [Int.toNat_natCast, hx]
  exact wpAny_bind (wpAny_setField h1 h3 (by simp) (wpAny_pure ⟨x, rfl, wpAny_pure (hQ _ ⟨_, Heap.get?_update_self _ h1 (Obj.isFreed_of_fields (Obj.data_mapFields h3 _)), (Obj.cls_mapFields ..).trans h2, by rw [Obj.data_mapFields h3]; simp [rawInt]⟩ (Heap.SameBut.update ..))⟩))
theorem jw {it t : Addr} {i : Nat} {its : Array Value} {Q : Value -> Shared -> Prop} (hh : A.handled = none) (hi : s.heap.IsTupleIter it t i) (ht : s.heap.IsTuple t its) (hx : its[i]? = none)
    (hE : ∀ h' e, Heap.ExtBut it s.heap h' -> (∃ o, h'.get? e = some o /\ o.cls = .type "StopIteration") -> E (.ref e) { s with heap := h' }) : wpAny (model prog w) A (Builtin.SmallTypes.nextOf (.ref it)) Q E s := by
  obtain ⟨oi, h1, h2, h3⟩ := id hi
  obtain ⟨ot, k1, _, nt, k2⟩ := ht
  unfold Builtin.SmallTypes.nextOf
  refine wpAny_bind (wpAny_callSpecial?_slot (name := Str.ofString "__next__") hi.typeIs F.slot_tuple_iterator_next (wpAny_call_entry F.slot_tuple_iterator_next hi.typeIs F.entry_tuple_iterator_next ?_ (F.args_tuple_iterator_next_1 _)))
  refine wpAny_bind (m := field (.ref it) 0) (wpAny_field h1 h3 (x := .ref t) rfl ?_)
  show wpAny _ _ (if (Value.ref t == Value.none) = true then _ else field (.ref it) 1 >>= _) _ _ s
  rw [if_neg (show ¬ ((Value.ref t == Value.none) = true) from Bool.false_ne_true)]
  refine wpAny_bind (wpAny_field h1 h3 (x := .int i 0) rfl (wpAny_bind (m := seqItems? (.ref t)) (wpAny_seqItems k1 k2 ?_)))
  simp only [Int.toNat_natCast, hx]
  refine wpAny_bind (wpAny_rule (wpAny_bind (wpAny_setField h1 h3 (by simp) (wpAny_bind (m := newExc (.type "StopIteration") []) ?_))))
  simp only [newExc, newTuple]
  refine wpAny_bind (wpAny_newObj_type (wpAny_bind (m := firstArgMember _ _) (wpAny_of_eq (a := Value.none) (by first | rfl | (simp only [firstArgMember]; rfl)) (wpAny_newObj_type ?_ (by size_fits)))) (by size_fits))
  simp only [raiseNew]
  refine wpAny_bind (wpAny_handled ?_)
  first | rw [show A.in1.handled = none from hh] | rw [hh]
  exact wpAny_bind (wpAny_pure (wpAny_throw (hE _ _ (((Heap.SameBut.update ..).extBut.push _).push _) ⟨_, Heap.get?_push_size _ rfl, rfl⟩)))
end
theorem Draws.tup {prog : Program} {w : World} {A : Around} (hh : A.handled = none) (it t : Addr) (hne : t ≠ it) (its : Array Value) : Draws prog w A it [it, t] its.size (fun i v => its[i]? = some v) (fun i h => h.IsTupleIter it t i /\ h.IsTuple t its) where
  live := fun _ _ z => let ⟨o, ho, _⟩ := z.1; ⟨o, ho⟩
  frame := fun _ _ _ z hk => ⟨z.1.at fun o e => hk it (by simp) o e, z.2.at fun o e => hk t (by simp) o e⟩
  item := fun i s Q E hi z hQ => iE z.1 z.2 (x := its[i]) (by simp [hi]) fun h' a b => hQ _ h' s.toks (by simp [hi]) ⟨a, z.2.extBut b.extBut hne⟩ b
  done := fun s Q E z hE => jw hh z.1 z.2 (by simp) hE
section
open AutoSeq1 (wpAny_loadPart')
theorem uR (t : Addr) (its : Array Value) (n : Nat) (dct : Option Addr) (sl : Array (Option Value)) :
    Meets (Builtin.«enumerate.__new__» ⟨[.type "enumerate", .ref t], []⟩) (fun _ R s => s.heap.get? t = some { cls := .type "tuple", dict := dct, data := .seq its n, slots := sl } ∧
      R (.ok (.ret (.ref (s.heap.push { cls := .type "tuple_iterator", data := .fields #[.ref t, .int 0 0] }).objs.size))) { s with heap := (s.heap.push { cls := .type "tuple_iterator", data := .fields #[.ref t, .int 0 0] }).push { cls := .type "enumerate", data := .fields #[.none, .bool false, .ref s.heap.objs.size, rawInt 0, .none, .none] } }) :=
  .of_wp fun prog w A R s z => by
    obtain ⟨hp, gs, dr, tk, os⟩ := s; obtain ⟨ht, z⟩ := z
    have su := sub_enumerate
    have hT : Heap.IsTuple (Shared.heap ⟨hp, gs, dr, tk, os⟩) t its := ⟨_, ht, rfl, n, rfl⟩
    wp_walk using wpAny_loadPart' ht
    refine wpAny_stack_any fun st => wpAny_pure ?_
    split
    · rename_i c _ _ _ _ _
      cases (c == Value.type "enumerate") <;> (wp_walk using wpAny_loadPart' ht, wpAny_pyIter_tuple hT; exact ⟨_, rfl, z⟩)
    · (wp_walk using wpAny_loadPart' ht, wpAny_pyIter_tuple hT); exact ⟨_, rfl, z⟩
end
section
variable {prog : Program} {w : World} {A : Around} {E : Value -> Shared -> Prop} {s : Shared}
theorem Ee {t : Addr} {its : Array Value} {Q : Value -> Shared -> Prop} (hT : s.heap.IsTuple t its)
    (q : ∀ h', IsEnum h' (s.heap.objs.size + 1) s.heap.objs.size 0 .none -> h'.IsTupleIter s.heap.objs.size t 0 -> h'.objs.size = s.heap.objs.size + 2 -> (∀ b o, s.heap.get? b = some o -> h'.get? b = some o) -> Q (.ref (s.heap.objs.size + 1)) { s with heap := h' }) :
    wpAny (model prog w) A (call (.type "enumerate") [.ref t]) Q E s := by
  obtain ⟨⟨c, dct, dt, sl⟩, ht, hc, n, hd⟩ := hT
  replace hc : c = .type "tuple" := hc
  replace hd : dt = .seq its n := hd
  subst hc hd
  refine callType_new F.called_enumerate (by decide) (F.typeCall_enumerate_1 _) (F.newCall_enumerate_1 _) (fun obj => F.args_object_init_2 obj _) F.entry_enumerate_new (uR t its n dct sl) ⟨ht, ?_⟩
  have hz : (s.heap.push { cls := .type "tuple_iterator", data := .fields #[.ref t, .int 0 0] }).objs.size = s.heap.objs.size + 1 := Heap.size_push ..
  show _ /\ _
  rw [hz]
  have he : IsEnum ((s.heap.push { cls := .type "tuple_iterator", data := .fields #[.ref t, .int 0 0] }).push { cls := .type "enumerate", data := .fields #[.none, .bool false, .ref s.heap.objs.size, rawInt 0, .none, .none] }) (s.heap.objs.size + 1) s.heap.objs.size 0 .none := by
    have y := Heap.get?_push_size (s.heap.push { cls := .type "tuple_iterator", data := .fields #[.ref t, .int 0 0] }) (o := { cls := .type "enumerate", data := .fields #[.none, .bool false, .ref s.heap.objs.size, rawInt 0, .none, .none] }) rfl
    rw [hz] at y; exact y
  exact ⟨⟨_, he, rfl⟩, q _ he ⟨_, Heap.get?_push_of_some _ (Heap.get?_push_size _ rfl), rfl, rfl⟩ (by rw [Heap.size_push, hz]) fun b o x => Heap.get?_push_of_some _ (Heap.get?_push_of_some _ x)⟩
end
theorem Inv.yielded {X : Cx} {pins : List (Addr × Obj)} {σ : St} {H : Hp} {s : Shared} {fp : List Addr} {T : Addr} {o : HO} {h' : Heap} {t' : Nat} (I : Inv X pins σ H s) (hf : ∀ b ∈ fp, nR X pins H b) (k : ∀ b u, b ∉ fp -> s.heap.get? b = some u -> h'.get? b = some u)
    (hT : s.heap.objs.size <= T) (new : cP X.prog X.w (upd H T o) h' T o) : Inv X pins σ (upd H T o) { s with heap := h', toks := t' } := by
  have nT : ∀ b u, s.heap.get? b = some u -> b ≠ T := fun b u e z => absurd (Heap.lt_size e) (by rw [z]; exact Nat.not_lt.mpr hT)
  have nH : ∀ b u, H b = some u -> b ≠ T := fun b u e z => absurd (I.hok.lt e) (by rw [z]; exact Nat.not_lt.mpr hT)
  have nf : ∀ b u, H b = some u -> b ∉ fp := fun b u e z => by rw [(hf b z).1] at e; cases e
  refine I.vN (s' := { s with heap := h', toks := t' }) (ch := fp) rfl ⟨fun b u e n _ c => k b u c e, fun b u e n _ c => ⟨u.slots, k b u c e⟩, fun b u e n c => by rw [aJ (nT b u e)]; exact n, fun b u e c => ⟨u, k b u c e⟩, fun b xs e => by rw [aJ (nH b _ e)]; exact e, fun b ob u e => by rw [aJ (nH b _ e)]; exact e, fun b ps e => ⟨#[], by rw [aJ (nH b _ e), e]; simp⟩⟩ (fun b u e => ?_) I.bare (fun b hb => ?_)
  · by_cases hb : b = T
    · subst hb
      rw [bj] at e
      cases e
      exact new
    · rw [aJ hb] at e
      refine (I.hok b u e).lC (fun c v hc q => k c v ?_ q) (fun c q => by rw [aJ (nH c _ q)]; exact q) fun c xs q => by rw [aJ (nH c _ q)]; exact q
      rcases hc with z | z
      · rw [z]; exact nf b u e
      · exact nf c _ z
  · obtain ⟨_, g1, _, g3, g4, g5⟩ := hf b hb
    exact ⟨g3, g1, g4, g5⟩
theorem Inv.m6 {X : Cx} {pins : List (Addr × Obj)} {σ : St} {H : Hp} {s : Shared} {fp : List Addr} {h' : Heap} {t' : Nat} (I : Inv X pins σ H s) (hf : ∀ b ∈ fp, nR X pins H b) (k : ∀ b u, b ∉ fp -> s.heap.get? b = some u -> h'.get? b = some u) : Inv X pins σ H { s with heap := h', toks := t' } := by
  have nf : ∀ b u, H b = some u -> b ∉ fp := fun b u e z => by rw [(hf b z).1] at e; cases e
  refine I.vN (s' := { s with heap := h', toks := t' }) (ch := fp) rfl ⟨fun b u e n _ c => k b u c e, fun b u e n _ c => ⟨u.slots, k b u c e⟩, fun b u e n c => n, fun b u e c => ⟨u, k b u c e⟩, fun b xs e => e, fun b ob u e => e, fun b ps e => ⟨#[], by rw [e]; simp⟩⟩ (fun b u e => ?_) I.bare (fun b hb => ?_)
  · refine (I.hok b u e).lC (fun c v hc q => k c v ?_ q) (fun c q => q) fun c xs q => q
    rcases hc with z | z
    · rw [z]; exact nf b u e
    · exact nf c _ z
  · obtain ⟨_, g1, _, g3, g4, g5⟩ := hf b hb
    exact ⟨g3, g1, g4, g5⟩
noncomputable def Iel (K : PySem.W.Frag) (a : Addr) : It :=
  ⟨fun i H => ∃ xs x, SqL K H a xs /\ xs[i]? = some x, fun i H x H' => ∃ p v, x = .ref p /\ H p = none /\ (∀ xs, SqL K H a xs -> xs[i]? = some v) /\ H' = upd H p (.tup [.int i, v]), fun i H => ∃ xs, SqL K H a xs /\ xs.length <= i⟩
noncomputable def Iet (K : PySem.W.Frag) (a : Addr) : It :=
  ⟨fun i H => ∃ xs x, SqT K H a xs /\ xs[i]? = some x, fun i H x H' => ∃ p v, x = .ref p /\ H p = none /\ (∀ xs, SqT K H a xs -> xs[i]? = some v) /\ H' = upd H p (.tup [.int i, v]), fun i H => ∃ xs, SqT K H a xs /\ xs.length <= i⟩
theorem tI {h : Heap} {e it : Addr} {i : Int} {old : Value} (z : IsEnum h e it i old) : ∃ o, h.get? e = some o /\ ∀ v, o.data ≠ .cell v := ⟨_, z, fun v q => nomatch q⟩
theorem oV {prog : Program} {w : World} {A : Around} {it : Addr} {fp : List Addr} {n : Nat} {P : Nat -> Value -> Prop} {St : Nat -> Heap -> Prop} (D : Draws prog w A.in1 it fp n P St) (e : Addr) (hei : e ≠ it) (hef : e ∉ fp) (i : Nat) (s : Shared) (Q : Option Value -> Shared -> Prop) (E : Value -> Shared -> Prop) (hi : i < n)
    (hst : (∃ old, IsEnum s.heap e it i old) /\ St i s.heap)
    (hQ : ∀ T vals h' tk, (∃ t x, P i x /\ vals = #[.int i t, x]) -> s.heap.objs.size <= T -> lF h' T vals -> ((∃ x, IsEnumOut h' e it ((i : Int) + 1) x T) /\ St (i + 1) h' /\ T ≠ e /\ T ≠ it) -> (∀ b o, b ∉ [e, it] -> s.heap.get? b = some o -> h'.get? b = some o) -> Q (some (.ref T)) { s with heap := h', toks := tk }) :
    wpAny (model prog w) A (pyNext (.ref e)) Q E s := by
  obtain ⟨⟨old, he⟩, hs⟩ := hst
  refine wpAny_pyNext_enum_itemD D he hs hi hei hef fun x h1 tk hP ho hs1 hT _ hk => ?_
  refine hQ s.heap.objs.size #[.int i tk, x] h1 (tk + 1) ⟨tk, x, hP, rfl⟩ (Nat.le_refl _) ⟨_, hT, ⟨rfl, _, rfl⟩, rfl⟩ ⟨⟨_, ho⟩, hs1, Nat.ne_of_gt (Heap.lt_size he), ?_⟩ fun b o hb y => hk b o (fun z => hb (by simp [z])) (fun z => hb (by simp [z])) y
  obtain ⟨_, y⟩ := D.live _ _ hs
  exact Nat.ne_of_gt (Heap.lt_size y)
theorem uf {P : Program} {w : World} {K : PySem.W.Frag} {elts : List Expr} {k : Nat} {pos : Pos} {a it e : Addr} (hei : e ≠ it) : Turn P w K (.Tuple elts k pos) (Iel K a) [e, it] e (fun i h => (∃ old, IsEnum h e it i old) /\ h.IsListIter it a i) where
  mem := by simp
  obj := fun i h z b hb => by
    obtain ⟨⟨old, z1⟩, z2⟩ := z
    rcases List.mem_cons.mp hb with rfl | hb
    · exact tI z1
    · rw [List.mem_singleton.mp hb]
      obtain ⟨o, q, _, d⟩ := z2
      exact ⟨o, q, fun v y => by rw [d] at y; cases y⟩
  keep := fun i h h' z kk => ⟨let ⟨old, z1⟩ := z.1; ⟨old, kk e (by simp) _ z1⟩, z.2.at fun o q => kk it (by simp) o q⟩
  item := by
    intro X hP hw hK hc i pins s σ H E I hf st hg
    subst hP hw hK
    obtain ⟨xs, x, hq, hx⟩ := hg
    obtain ⟨its, rv, p, hz⟩ := I.list hq
    obtain ⟨u, hu, ru⟩ := rv.get hx
    have hl := rv.length
    have plt : a < s.heap.objs.size := by obtain ⟨o, q, _⟩ := p.isList; exact Heap.lt_size q
    have hai : a ≠ it /\ a ≠ e := by
      obtain ⟨oa, qa, ca, _⟩ := p.isList
      obtain ⟨⟨old, z1⟩, oi, qi, ci, _⟩ := st
      exact ⟨(fun q => by rw [q, qi] at qa; cases qa; rw [ci] at ca; injection ca with y; exact absurd y (by decide)), (fun q => by rw [q, z1] at qa; cases qa; injection ca with y; exact absurd y (by decide))⟩
    have DD := (Draws.list (prog := X.prog) (w := X.w) (A := X.A.in1) (I.ok.hd hc) it a hai.1 its.toArray)
    have hef0 : e ∉ [it, a] := by simp; exact ⟨hei, fun q => hai.2 q.symm⟩
    have W := WalksT.enumerateD (prog := X.prog) (w := X.w) (A := X.A) DD e hei hef0 (by simp)
    refine oV DD e hei hef0 i s _ _ (by rw [List.size_toArray, <- hl]; exact (List.getElem?_eq_some_iff.mp hx).1) ⟨st.1, st.2, p.isList⟩ fun T vals h1 tk hv hT ht hm k1 => ?_
    obtain ⟨t, v, hv1, hv2⟩ := hv
    have ev : v = u := by
      have : its[i]? = some v := by simpa using hv1
      rw [hu] at this; exact (Option.some.inj this).symm
    subst ev
    refine ⟨.ref T, rfl, W.go elts k pos i T { s with heap := h1, toks := tk } _ _ hm fun h2 st2 k2 => ?_⟩
    have kk : ∀ b o, b ∉ [e, it] -> s.heap.get? b = some o -> h2.get? b = some o := fun b o hb q => k2 b o hb (k1 b o hb q)
    have hT2 : lF h2 T vals := by
      obtain ⟨o, q, c⟩ := ht
      exact ⟨o, k2 T o (fun z => W.apart _ _ _ hm z) q, c⟩
    have hn : H T = none := I.hok.fresh hT
    have nTf : ∀ b ∈ [e, it], b ≠ T := fun b hb z => by
      have hlt : b < s.heap.objs.size := by
        rcases List.mem_cons.mp hb with rfl | hb
        · obtain ⟨old, z1⟩ := st.1; exact Heap.lt_size z1
        · rw [List.mem_singleton.mp hb]; obtain ⟨o, q, _⟩ := st.2; exact Heap.lt_size q
      rw [z] at hlt; exact absurd hlt (Nat.not_lt.mpr hT)
    refine ⟨.ref T, upd H T (.tup [.int i, x]), I.yielded (t' := tk) hf kk hT ⟨by show 2 <= sizeLine; decide, [.int i t, v], .cons ⟨t, rfl⟩ (.cons ru .nil), ?_⟩, rfl, ⟨T, x, rfl, hn, fun ys hy => by rw [I.jg hy hq]; exact hx, rfl⟩, ⟨st2.1, st2.2.1⟩, fun b hb => by rw [aJ (nTf b hb)]; exact (hf b hb).1⟩
    rw [hv2] at hT2; exact hT2
  done := by
    intro X hP hw hK hc i pins s σ H E I hf st hg
    subst hP hw hK
    obtain ⟨xs, hq, hx⟩ := hg
    obtain ⟨its, rv, p, hz⟩ := I.list hq
    obtain ⟨⟨old, z1⟩, z2⟩ := st
    have hl := rv.length
    exact wpAny_pyNext_enum_end (I.ok.hd hc) z1 z2 p.isList (Array.getElem?_eq_none (by rw [List.size_toArray]; omega)) fun h' eb => ⟨rfl, I.m6 (t' := s.toks) hf fun b u hb q => eb b u (fun z => hb (by simp [z])) q⟩
  self := fun A i s Q E z q => by
    obtain ⟨⟨old, z1⟩, z2⟩ := z
    exact wpAny_pyIter_enum z1 q
theorem uC {P : Program} {w : World} {K : PySem.W.Frag} {elts : List Expr} {k : Nat} {pos : Pos} {a it e : Addr} (hei : e ≠ it) : Turn P w K (.Tuple elts k pos) (Iet K a) [e, it] e (fun i h => (∃ old, IsEnum h e it i old) /\ h.IsTupleIter it a i) where
  mem := by simp
  obj := fun i h z b hb => by
    obtain ⟨⟨old, z1⟩, z2⟩ := z
    rcases List.mem_cons.mp hb with rfl | hb
    · exact tI z1
    · rw [List.mem_singleton.mp hb]
      obtain ⟨o, q, _, d⟩ := z2
      exact ⟨o, q, fun v y => by rw [d] at y; cases y⟩
  keep := fun i h h' z kk => ⟨let ⟨old, z1⟩ := z.1; ⟨old, kk e (by simp) _ z1⟩, z.2.at fun o q => kk it (by simp) o q⟩
  item := by
    intro X hP hw hK hc i pins s σ H E I hf st hg
    subst hP hw hK
    obtain ⟨xs, x, hq, hx⟩ := hg
    obtain ⟨its, rv, p, hz⟩ := I.tuple hq
    obtain ⟨u, hu, ru⟩ := rv.get hx
    have hl := rv.length
    have plt : a < s.heap.objs.size := by obtain ⟨o, q, _⟩ := (show s.heap.IsTuple a its.toArray from p); exact Heap.lt_size q
    have hai : a ≠ it /\ a ≠ e := by
      obtain ⟨oa, qa, ca, _⟩ := (show s.heap.IsTuple a its.toArray from p)
      obtain ⟨⟨old, z1⟩, oi, qi, ci, _⟩ := st
      exact ⟨(fun q => by rw [q, qi] at qa; cases qa; rw [ci] at ca; injection ca with y; exact absurd y (by decide)), (fun q => by rw [q, z1] at qa; cases qa; injection ca with y; exact absurd y (by decide))⟩
    have DD := (Draws.tup (prog := X.prog) (w := X.w) (A := X.A.in1) (I.ok.hd hc) it a hai.1 its.toArray)
    have hef0 : e ∉ [it, a] := by simp; exact ⟨hei, fun q => hai.2 q.symm⟩
    have W := WalksT.enumerateD (prog := X.prog) (w := X.w) (A := X.A) DD e hei hef0 (by simp)
    refine oV DD e hei hef0 i s _ _ (by rw [List.size_toArray, <- hl]; exact (List.getElem?_eq_some_iff.mp hx).1) ⟨st.1, st.2, (show s.heap.IsTuple a its.toArray from p)⟩ fun T vals h1 tk hv hT ht hm k1 => ?_
    obtain ⟨t, v, hv1, hv2⟩ := hv
    have ev : v = u := by
      have : its[i]? = some v := by simpa using hv1
      rw [hu] at this; exact (Option.some.inj this).symm
    subst ev
    refine ⟨.ref T, rfl, W.go elts k pos i T { s with heap := h1, toks := tk } _ _ hm fun h2 st2 k2 => ?_⟩
    have kk : ∀ b o, b ∉ [e, it] -> s.heap.get? b = some o -> h2.get? b = some o := fun b o hb q => k2 b o hb (k1 b o hb q)
    have hT2 : lF h2 T vals := by
      obtain ⟨o, q, c⟩ := ht
      exact ⟨o, k2 T o (fun z => W.apart _ _ _ hm z) q, c⟩
    have hn : H T = none := I.hok.fresh hT
    have nTf : ∀ b ∈ [e, it], b ≠ T := fun b hb z => by
      have hlt : b < s.heap.objs.size := by
        rcases List.mem_cons.mp hb with rfl | hb
        · obtain ⟨old, z1⟩ := st.1; exact Heap.lt_size z1
        · rw [List.mem_singleton.mp hb]; obtain ⟨o, q, _⟩ := st.2; exact Heap.lt_size q
      rw [z] at hlt; exact absurd hlt (Nat.not_lt.mpr hT)
    refine ⟨.ref T, upd H T (.tup [.int i, x]), I.yielded (t' := tk) hf kk hT ⟨by show 2 <= sizeLine; decide, [.int i t, v], .cons ⟨t, rfl⟩ (.cons ru .nil), ?_⟩, rfl, ⟨T, x, rfl, hn, fun ys hy => by rw [I.g_ hy hq]; exact hx, rfl⟩, ⟨st2.1, st2.2.1⟩, fun b hb => by rw [aJ (nTf b hb)]; exact (hf b hb).1⟩
    rw [hv2] at hT2; exact hT2
  done := by
    intro X hP hw hK hc i pins s σ H E I hf st hg
    subst hP hw hK
    obtain ⟨xs, hq, hx⟩ := hg
    obtain ⟨its, rv, p, hz⟩ := I.tuple hq
    obtain ⟨⟨old, z1⟩, z2⟩ := st
    have hl := rv.length
    have pt : s.heap.IsTuple a its.toArray := p
    have DD : Draws X.prog X.w X.A.in1 it [it, a] i (fun _ _ => True) (fun j h => j = i /\ h.IsTupleIter it a j /\ h.IsTuple a its.toArray) := {
      live := fun _ _ z => let ⟨o, ho, _⟩ := z.2.1; ⟨o, ho⟩
      frame := fun _ _ _ z hk => ⟨z.1, z.2.1.at fun o e => hk it (by simp) o e, z.2.2.at fun o e => hk a (by simp) o e⟩
      item := fun j s Q E hj z hQ => absurd z.1 (Nat.ne_of_lt hj)
      done := fun s Q E z hE => jw (I.ok.hd hc) z.2.1 z.2.2 (Array.getElem?_eq_none (by rw [List.size_toArray]; omega)) hE }
    exact wpAny_pyNext_enum_endD DD z1 ⟨rfl, z2, pt⟩ fun h' eb => ⟨rfl, I.m6 (t' := s.toks) hf fun b u hb q => eb b u (fun z => hb (by simp [z])) q⟩
  self := fun A i s Q E z q => by
    obtain ⟨⟨old, z1⟩, z2⟩ := z
    exact wpAny_pyIter_enum z1 q
noncomputable def Dk (K : PySem.W.Frag) (tl : TE) : TI := fun σ H R => tl σ H fun x H1 => ∃ a, x = .ref a /\ (((∃ xs, SqL K H1 a xs) /\ R (Iel K a) H1) \/ ((∃ xs, SqT K H1 a xs) /\ R (Iet K a) H1))
theorem AQ {X : Cx} {elts : List Expr} {kt : Nat} {tp p pos : Pos} {l : Expr} {tl : TE} (hg : Gl X "enumerate") (hm : X.mg "enumerate" = none) (hl : PE X l tl) (hs : starEach [l] X.env = [(false, eval l X.env)] := by rfl) :
    PI X (.Tuple elts kt tp) (.Call (.Name "enumerate" p) [l] [] pos) (Dk X.K tl) := by
  intro pins s σ H R I h
  have h' : Bw tl Dw σ H (fun vs H1 => match vs with
    | [x] => ∃ a, x = .ref a /\ (((∃ xs, SqL X.K H1 a xs) /\ R (Iel X.K a) H1) \/ ((∃ xs, SqT X.K H1 a xs) /\ R (Iet X.K a) H1))
    | _ => False) := h
  refine Call_ (j5 I hg hm PyProof.Rows.boot_enumerate (PyProof.Rows.callWith_type1 (thn (k8 hl r6 hs pos pins s σ H _ I h') fun us s1 ⟨vs, H1, I1, r1, q1⟩ => ?_) hs rfl))
  cases r1 with
  | nil => exact q1.elim
  | cons r rr =>
    cases rr with
    | cons _ _ => exact q1.elim
    | nil =>
      obtain ⟨a, rfl, q⟩ := q1
      cases r
      have fp : ∀ {h' : Heap}, ∀ b ∈ [s1.heap.objs.size + 1, s1.heap.objs.size], nR X pins H1 b := fun {h'} b hb => by
        have hb' : s1.heap.objs.size <= b := by
          rcases List.mem_cons.mp hb with z | hb
          · omega
          · have := List.mem_singleton.mp hb; omega
        exact I1.yB hb' (I1.hok.fresh hb')
      rcases q with ⟨⟨xs, hq⟩, q⟩ | ⟨⟨xs, hq⟩, q⟩
      · obtain ⟨its, rv, pl, hz⟩ := I1.list hq
        refine call_enumerate_list pl.isList fun h2 z1 z2 hsz kp => wpAny_pyIter_enum (s := { s1 with heap := h2 }) z1 ?_
        exact ⟨s1.heap.objs.size + 1, [s1.heap.objs.size + 1, s1.heap.objs.size], _, _, H1, rfl, I1.kept (t' := s1.toks) kp, uf (a := a) (Nat.succ_ne_self _), ⟨⟨_, z1⟩, z2⟩, fp (h' := h2), q⟩
      · obtain ⟨its, rv, pl, hz⟩ := I1.tuple hq
        refine Ee (show s1.heap.IsTuple a its.toArray from pl) fun h2 z1 z2 hsz kp => wpAny_pyIter_enum (s := { s1 with heap := h2 }) z1 ?_
        exact ⟨s1.heap.objs.size + 1, [s1.heap.objs.size + 1, s1.heap.objs.size], _, _, H1, rfl, I1.kept (t' := s1.toks) kp, uC (a := a) (Nat.succ_ne_self _), ⟨⟨_, z1⟩, z2⟩, fp (h' := h2), q⟩
noncomputable def zk (nt : Nat) (ix : List Nat) (σ : St) : St := List.replicate nt none ++ ix.map fun i => (σ[i]?).join
noncomputable def tL (nt : Nat) (ix : List Nat) (σ σ' : St) : Prop := ∃ ts : St, ts.length = nt /\ σ' = ts ++ ix.map fun i => (σ[i]?).join
noncomputable abbrev CN (J : It) (nt : Nat) (ix : List Nat) (σ : St) (tg : TG) (tt : TT) (te : TE) (acc : Addr) (H1 : Hp) (Q : VK) : Prop :=
  ∃ W : Nat -> Nat -> List V -> Hp -> Prop, (∃ m, W 0 m [] (upd H1 acc (.lst []))) /\ ∀ i m ys H, W i m ys H →
    (J.stop i H /\ Q (.ref acc) H) \/ (J.go i H /\ ∀ σ0 x H', tL nt ix σ σ0 -> J.yld i H x H' -> tg x σ0 H' fun σ2 Hn => tL nt ix σ σ2 /\ tt σ2 Hn fun b H2 => if b = true then te σ2 H2 fun y H3 =>
        H3 acc = some (.lst ys) /\ ys.length < sizeLine /\ ∃ m', m' < m /\ W (i + 1) m' (ys ++ [y]) (upd H3 acc (.lst (ys ++ [y])))
      else ∃ m', m' < m /\ W (i + 1) m' ys H2)
noncomputable def nS (wi : TI) (nt : Nat) (ix : List Nat) (tg : TG) (tt : TT) (te : TE) : TE := fun σ H Q => wi σ H fun J H1 => ∀ acc, H1 acc = none -> CN J nt ix σ tg tt te acc H1 Q
theorem qk {X : Cx} {use : Option (Value -> Sem Unit)} {Q2 : Value -> Shared -> Prop} {pins : List (Addr × Obj)} {s : Shared} {σ : St} {H : Hp} {Q : VK} {elt iter tg : Expr} {tn' : List Str} {tgr : TG} {ifs : List Expr} {scope osc : Scope} {pos : Pos} {wi : TI} {tt : TT} {te : TE} (ix : List Nat) (N' : List Str)
    (hxe : X.xe = fun _ _ => False) (hc : X.calm = true) (ho : X.env.scope = osc) (hN : N' = tn' ++ ix.map fun i => (X.N[i]?).getD ("" : Str)) (hnd : N'.Nodup)
    (hall : (∀ y ∈ scope.names, y.2 = .free -> osc.names.lookup y.1 = some .cell) /\ (∀ y ∈ scope.names, y.2 ≠ .cell) /\ scope.kind = .function /\ (∀ y ∈ scope.names, y.2 = .local -> scope.names.lookup y.1 = some .local) /\ (∀ y ∈ N'.drop tn'.length, scope.names.lookup y = some .free))
    (hi : PI X tg iter wi) (hg : ∀ cl C aM aU fp, PG (cp X scope cl C aM aU fp N') tg tgr)
    (ht : ∀ cl C aM aU fp, PTs (cp X scope cl C aM aU fp N') ifs tt)
    (he : ∀ cl C aM aU fp, PE (cp X scope cl C aM aU fp N') elt te)
    (hs : ∀ x, foldedSetIterable iter X.env x = pure x) (I : Inv X pins σ H s) (h : nS wi tn'.length ix tgr tt te σ H Q)
    (hfin : ∀ (acc C : Addr) (H5 : Hp) (s5 : Shared) (o : Obj), Inv X (pins ++ [(C, o)]) σ H5 s5 -> (∀ x c, X.env.cells.lookup x = some c -> c ≠ C) -> X.aM.heap.objs.size <= C -> (∀ p ∈ X.pn ++ pins, p.1 ≠ C) -> (∃ m, ∀ h' : Heap, h'.get? C = some o -> h'.Ns C m) -> Q (.ref acc) H5 -> compPost (model X.prog X.w) X.A X.xe use Q2 (.ref acc) C (.ok .next) s5) :
    wpAny (model X.prog X.w) X.A (comprehension (.ListComp elt [⟨tg, iter, ifs, 0⟩] scope pos) scope X.env (firstIterPos [⟨tg, iter, ifs, 0⟩] pos) (newList []) false (eval iter X.env) use) Q2 X.xe s := by
  obtain ⟨hfr, hcell, hkind, hnames, hcap⟩ := hall
  subst ho
  have outc : ∀ y ∈ scope.names, y.2 = .free -> X.env.kindOf y.1 = some .cell := fun y hy q => hfr y hy q
  obtain ⟨cl, hclos, hcl1, hcl2⟩ := pE (env := X.env) (scope := scope) fun y hy q => I.ok.has y.1 (.inl (outc y hy q))
  refine wpAny_comprehension_free (use := use) rfl hs hclos hkind hnames (thn (hi pins s σ H _ I h) fun v s1 h1 => thn h1 fun itv s2 h2 => ?_)
  obtain ⟨it, fp, tn, J, H2, e, I2, T, st2, f2, rest⟩ := h2
  subst e
  have hf2 : H2 s2.heap.objs.size = none := I2.hok.fresh (Nat.le_refl _)
  obtain ⟨W, ⟨m0, w0⟩, turn⟩ := rest s2.heap.objs.size hf2
  -- the list
  refine wpAny_newObj_type ?_
  have I3 : Inv X pins σ (upd H2 s2.heap.objs.size (.lst [])) { s2 with heap := s2.heap.push { cls := .type "list", dict := none, data := .seq ([] : List Value).toArray } } := I2.Dc (its := []) (t' := s2.toks) .nil (Nat.zero_le _)
  have keep3 : ∀ b o, s2.heap.get? b = some o -> (s2.heap.push { cls := .type "list", dict := none, data := .seq ([] : List Value).toArray }).get? b = some o := fun b o q => Heap.get?_push_of_some _ q
  have fp3 : ∀ b ∈ fp, ∃ o, s2.heap.get? b = some o /\ ∀ v, o.data ≠ .cell v := T.obj _ _ st2
  have st3 : tn 0 (s2.heap.push { cls := .type "list", dict := none, data := .seq ([] : List Value).toArray }) := T.keep _ _ _ st2 fun b _ o q => keep3 b o q
  have fpn : ∀ b ∈ fp, (upd H2 s2.heap.objs.size (HO.lst [])) b = none := fun b hb => by
    obtain ⟨o, q, _⟩ := fp3 b hb
    rw [aJ (Nat.ne_of_lt (Heap.lt_size q))]
    exact (f2 b hb).1
  revert I3 keep3 st3 fpn w0
  generalize hS3 : ({ s2 with heap := s2.heap.push { cls := .type "list", dict := none, data := .seq ([] : List Value).toArray } } : Shared) = s3
  generalize hH3 : upd H2 s2.heap.objs.size (HO.lst []) = H3
  intro w0 I3 keep3 st3 fpn
  have acc3 : H3 s2.heap.objs.size = some (.lst []) := by rw [<- hH3]; exact bj
  generalize s2.heap.objs.size = acc at *
  have e3 : s2.heap.push { cls := .type "list", dict := none, data := .seq ([] : List Value).toArray } = s3.heap := by rw [<- hS3]
  have keep3' : ∀ b o, s2.heap.get? b = some o -> s3.heap.get? b = some o := fun b o q => by rw [<- e3]; exact keep3 b o q
  have st3' : tn 0 s3.heap := by rw [<- e3]; exact st3
  refine wpAny_newFunctionEnv hcell (by intro y hy; simp at hy) (fun h₁ hns₁ hsb₁ => ?_) hkind
  have hC : s3.heap.objs.size = s3.heap.objs.size := rfl
  have keep4 : ∀ b o, s3.heap.get? b = some o -> h₁.get? b = some o := fun b o q => hsb₁.extBut b o (Nat.ne_of_lt (Heap.lt_size q)) (Heap.get?_push_of_some _ q)
  have fpC : ∀ b ∈ fp, b ≠ s3.heap.objs.size := fun b hb => by
    obtain ⟨o, q, _⟩ := fp3 b hb
    exact Nat.ne_of_lt (Heap.lt_size (keep3' b o q))
  -- the block's context
  generalize hX' : cp X scope cl s3.heap.objs.size s3 H3 fp N' = X'
  have hXp : X'.prog = X.prog := by rw [<- hX']; rfl
  have hXw : X'.w = X.w := by rw [<- hX']; rfl
  have hXK : X'.K = X.K := by rw [<- hX']; rfl
  have hXA : X'.A = X.A := by rw [<- hX']; rfl
  have hXe : X'.env = compEnvC scope cl s3.heap.objs.size X.env := by rw [<- hX']; rfl
  have hXc : X'.calm = true := by rw [<- hX']; exact hc
  have hXx : X'.xe = fun _ _ => False := by rw [<- hX']; exact hxe
  have hXf : X'.fs = frs X.stack := by rw [<- hX']; rfl
  have hXex : X'.ex = fp := by rw [<- hX']; rfl
  have hXN : X'.N = N' := by rw [<- hX']; rfl
  have hXs : X'.aM = s3 := by rw [<- hX']; rfl
  have hXH : X'.aU = H3 := by rw [<- hX']; rfl
  have hXpn : X'.pn = [] := by rw [<- hX']; rfl
  have okX : X'.Ok := by
    rw [<- hX']
    refine ⟨I3.ok.mod, hkind, I3.ok.glob, I3.ok.blt, Nat.le_refl _, fun a b c p q => I3.ok.inj a b c (hcl1 a c p) (hcl1 b c q), fun y hy => ?_, fun _ _ z => (by cases z), I3.ok.hd, I3.ok.frames, .inl rfl, fun b hb => ⟨fpC b hb, fun y c p => (f2 b hb).2.2.2.2.1 y c (hcl1 y c p)⟩,
      I3.bs, Nat.le_trans I3.ok.bsz I3.sz, fun b o p hb => ?_, fun b hb z => ?_, I3.stack, I3.vq⟩
    · have hy' : (relabel scope X.env).names.lookup y = some .cell \/ (relabel scope X.env).names.lookup y = some .free := hy
      have free : scope.names.lookup y = some .free -> ∃ c, cl.lookup y = some c := fun q => hcl2 y (lookup_mem q)
      rcases hy' with q | q
      · rcases iy q with z | ⟨z, _⟩
        · exact absurd rfl (hcell _ (lookup_mem z))
        · exact free z
      · rcases iy q with z | ⟨_, z⟩
        · exact free z
        · cases z
    · rcases (f2 b hb).2.2.2.1 with z | z
      · exact I3.ok.yt b o p z
      · exact absurd (Nat.lt_of_lt_of_le (Heap.lt_size p) (Nat.le_trans I3.ok.bsz z)) (Nat.lt_irrefl _)
    · rcases List.mem_cons.mp (I3.r9 b z) with q | q
      · exact (f2 b hb).2.1 q
      · exact (f2 b hb).2.2.1 q
  have I4 : ∀ tk, Inv X' [] (zk tn'.length ix σ) H3 { s3 with heap := h₁, toks := tk } := fun tk => by
    have hloc := I3.loc
    refine ⟨okX, by rw [hXs], I3.bare, ?_, ⟨fun y => ([] : List (Str × Value)).reverse.lookup y, by rw [hXe]; exact hns₁, fun i y v e1 e2 e3 => ?_⟩, fun y c p => ?_, ?_, fun y c p => ?_, fun p hp => ?_, ?_, ?_⟩
    · rw [hXf, hXex, hXH, hXs]; exact Un.kept keep4
    · rw [hXN, hN] at e1
      by_cases hit' : i < tn'.length
      · exfalso
        unfold zk at e2
        rw [List.getElem?_append_left (by simpa using hit'), List.getElem?_replicate, if_pos hit'] at e2
        cases e2
      · have e10 : N'[i]? = some y := by rw [hN]; exact e1
        obtain ⟨j, rfl⟩ : ∃ j, i = tn'.length + j := ⟨i - tn'.length, by omega⟩
        have e1' : (ix.map fun i => (X.N[i]?).getD ("" : Str))[j]? = some y := by
          rw [List.getElem?_append_right (by omega)] at e1
          rw [show tn'.length + j - tn'.length = j by omega] at e1
          exact e1
        have e2' : (ix.map fun i => (σ[i]?).join)[j]? = some (some v) := by
          unfold zk at e2
          rw [List.getElem?_append_right (by simp)] at e2
          simpa using e2
        rw [List.getElem?_map] at e1' e2'
        cases hj : ix[j]? with
        | none => rw [hj] at e1'; cases e1'
        | some i0 =>
          rw [hj] at e1' e2'
          have e1'' : (X.N[i0]?).getD ("" : Str) = y := by simpa using e1'
          have e2'' : (σ[i0]?).join = some v := by simpa using e2'
          have hsv : σ[i0]? = some (some v) := by
            cases q : σ[i0]? with
            | none => rw [q] at e2''; cases e2''
            | some z => rw [q] at e2''; have : z = some v := by simpa using e2''
                        rw [this]
          have hlt : i0 < X.N.length := by
            have := (List.getElem?_eq_some_iff.mp hsv).1
            rw [I3.len] at this; exact this
          have hNy : X.N[i0]? = some y := by
            rw [List.getElem?_eq_getElem hlt] at e1'' ⊢
            simpa using e1''
          have hyt : y ∈ N'.drop tn'.length := by
            refine List.mem_of_getElem? (i := j) ?_
            rw [List.getElem?_drop]; exact e10
          have hyf := hcap y hyt
          have hyc := outc (y, .free) (lookup_mem hyf) rfl
          obtain ⟨m, hn, hl⟩ := hloc
          obtain ⟨u, r, l⟩ := hl i0 y v hNy hsv (.inr (.inl hyc))
          refine ⟨u, r, ?_⟩
          rcases l with ⟨k1, _⟩ | ⟨_, c, p, z⟩
          · have hyc' : X.env.kindOf y = some .cell := hyc
            rw [k1] at hyc'; cases hyc'
          · obtain ⟨c', p'⟩ := hcl2 y (lookup_mem hyf)
            have pc : c' = c := by
              have := hcl1 y c' p'
              rw [p] at this; cases this; rfl
            subst pc
            refine .inr ⟨.inl ?_, c', by rw [hXe]; exact p', ?_⟩
            · rw [hXe]; exact fP I3.ok.kind hyf hyc
            · obtain ⟨o, q1, q2⟩ := z
              exact ⟨o, keep4 c' o q1, q2⟩
    · rw [hXe] at p
      obtain ⟨v, o, q1, q2⟩ := I3.cell y c (hcl1 y c p)
      exact ⟨v, o, keep4 c o q1, q2⟩
    · rw [hXe]; exact I3.hok.fresh (Nat.le_refl _)
    · rw [hXe] at p; exact I3.iP y c (hcl1 y c p)
    · rw [hXpn] at hp; cases hp
    · rw [hXp, hXw]; exact I3.hok.kept keep4
    · rw [hXN, hN]; simp [zk]
  -- the loop
  have stat : ∀ {H' : Hp}, (∀ b ∈ fp, H' b = none) -> ∀ b ∈ fp, nR X' [] H' b := fun hn b hb => by
    refine ⟨hn b hb, by rw [hXe]; exact fpC b hb, ?_, .inl (by rw [hXex]; exact hb), fun y c p => ?_, fun p hp => by rw [hXpn] at hp; cases hp⟩
    · rw [hXf]; intro z
      rcases List.mem_cons.mp (I3.r9 b z) with q | q
      · exact (f2 b hb).2.1 q
      · exact (f2 b hb).2.2.1 q
    · rw [hXe] at p; exact (f2 b hb).2.2.2.2.1 y c (hcl1 y c p)
  have fin : ∀ {H5 : Hp} {s5 : Shared} {σ5 : St}, Inv X' [] σ5 H5 s5 -> Q (.ref acc) H5 -> compPost (model X.prog X.w) X.A X.xe use Q2 (.ref acc) s3.heap.objs.size (.ok .next) s5 := fun {H5 s5 σ5} I5 q => by
    obtain ⟨m, hn, _⟩ := I5.loc
    rw [hXe] at hn
    have hn' : s5.heap.Ns s3.heap.objs.size m := hn
    obtain ⟨oC, esC, epC, hC1, hC2, hC3⟩ := hn'
    have u5 := I5.base
    rw [hXf, hXex, hXH, hXs] at u5
    have fr : H5 s3.heap.objs.size = none := by have := I5.free; rw [hXe] at this; exact this
    have hok5 := I5.hok
    rw [hXp, hXw] at hok5
    have hos : s5.os = s3.os := by have := I5.os; rw [hXs] at this; exact this
    have IX : Inv X pins σ H5 s5 := I3.vN (s' := s5) (ch := fp) hos u5 hok5 I5.bare (fun b hb => by
      obtain ⟨g0, g1, g2, g3, g4, g5⟩ := f2 b hb
      exact ⟨g3, g1, g4, g5⟩)
    have cC : ∀ x c, X.env.cells.lookup x = some c -> c ≠ s3.heap.objs.size := fun x c z e => by
      obtain ⟨v, q⟩ := I3.cell x c z
      exact absurd q.lt (by rw [e]; exact Nat.lt_irrefl _)
    have pC : ∀ p ∈ X.pn ++ pins, p.1 ≠ s3.heap.objs.size := fun p hp e => by
      have := Heap.lt_size (I3.pin p hp).1
      rw [e] at this
      exact Nat.lt_irrefl _ this
    refine hfin acc s3.heap.objs.size H5 s5 oC (IX.m_ fun p hp => ?_) cC I3.sz pC ⟨m, fun h' z => ⟨oC, esC, epC, z, hC2, hC3⟩⟩ q
    rcases List.mem_append.mp hp with z | z
    · exact IX.pin p (List.mem_append_right _ z)
    · have e := List.mem_singleton.mp z
      subst e
      refine ⟨hC1, fr, Nat.ne_of_gt I3.lt, I3.DN (Nat.le_refl _), fun v e => ?_⟩
      have e' : oC.data = .cell v := e
      rw [hC2] at e'; cases e'
  have loop : ∀ tk, codeAny (model X.prog X.w) X.A (.compLoop (.ListComp elt [⟨tg, iter, ifs, 0⟩] scope pos) 0 (.ref it) (.ref acc) (compEnvC scope cl s3.heap.objs.size X.env))
      (compPost (model X.prog X.w) X.A X.xe use Q2 (.ref acc) s3.heap.objs.size) { s3 with heap := h₁, toks := tk } := fun tk => by
    refine t4 (fun n s' => ∃ i ys σ' H', Inv X' [] σ' H' s' /\ tL tn'.length ix σ σ' /\ tn i s'.heap /\ (∀ b ∈ fp, H' b = none) /\ W i n ys H') (fun n s5 h5 => ?_) m0
      ⟨0, [], zk tn'.length ix σ, H3, I4 tk, ⟨_, List.length_replicate, rfl⟩, T.keep _ _ _ st3' fun b _ o q => keep4 b o q, fpn, w0⟩
    obtain ⟨i, ys, σ5, H5, I5, hσ, st5, fr5, w5⟩ := h5
    rcases turn i n ys H5 w5 with ⟨stop, q⟩ | ⟨go, step⟩
    · have d := T.done X' hXp hXw hXK hXc i [] s5 σ5 H5 (fun _ _ => False) I5 (stat fr5) st5 stop
      rw [hXA] at d
      refine thn d fun r s6 ⟨hr, I6⟩ => ?_
      subst hr
      exact fin I6 q
    · have d := T.item X' hXp hXw hXK hXc i [] s5 σ5 H5 (fun _ _ => False) I5 (stat fr5) st5 go
      rw [hXA] at d
      refine thn d fun r s6 ⟨u, hr, h6⟩ => ?_
      subst hr
      refine thn h6 fun _ s7 ⟨z, H7, I7, r7, y7, st7, fr7⟩ => ?_
      have I7' := I7.pinned (stat fr7) (T.obj _ _ st7)
      have again : ∀ {H9 : Hp} {s9 : Shared} {ys9 : List V} {σ9 : St}, Inv X' ([] ++ n_ fp s7.heap) σ9 H9 s9 -> tL tn'.length ix σ σ9 -> (∃ m', m' < n /\ W (i + 1) m' ys9 H9) -> ∃ m', m' < n /\ ∃ i ys σ' H', Inv X' [] σ' H' s9 /\ tL tn'.length ix σ σ' /\ tn i s9.heap /\ (∀ b ∈ fp, H' b = none) /\ W i m' ys H' := fun {H9 s9 ys9 σ9} I9 c9 ⟨m', hm, w9⟩ => by
        refine ⟨m', hm, i + 1, ys9, _, H9, I9.k7, c9, T.keep _ _ _ st7 fun b hb o e => (I9.pin (b, o) (List.mem_append_right _ (List.mem_append_right _ (ir hb e)))).1, fun b hb => ?_, w9⟩
        obtain ⟨o, e, _⟩ := T.obj _ _ st7 b hb
        exact (I9.pin (b, o) (List.mem_append_right _ (List.mem_append_right _ (ir hb e)))).2.1
      have ht' := ht cl s3.heap.objs.size s3 H3 fp
      have he' := he cl s3.heap.objs.size s3 H3 fp
      have hg' := hg cl s3.heap.objs.size s3 H3 fp
      rw [hX'] at ht' he' hg'
      rw [<- hXe]
      have a0 := hg' _ s7 σ5 H7 z u _ I7' r7 (step σ5 z H7 hσ y7)
      rw [hXp, hXw, hXA, hXx] at a0
      refine thn a0 fun _ s8 ⟨σ8, H8, I8, c8, q8⟩ => ?_
      have a1 := ht' _ s8 _ H8 _ I8 q8
      rw [hXp, hXw, hXA, hXx] at a1
      refine thn a1 fun b s9 ⟨H9, I9, q9⟩ => ?_
      cases b with
      | false => exact again I9 c8 q9
      | true =>
        have a2 := he' _ s9 _ H9 _ I9 q9
        rw [hXp, hXw, hXA, hXx] at a2
        refine thn a2 fun yv s10 ⟨y, H10, I10, r10, q1, q2, q3⟩ => ?_
        have a3 := pU (X := X') _ s10 _ H10 (.ref acc) [y] (.ref acc) [yv] (fun _ Hq => ∃ m', m' < n /\ W (i + 1) m' (ys ++ [y]) Hq) I10 rfl (.cons r10 .nil) ⟨acc, ys, y, rfl, rfl, q1, q2, q3⟩
        rw [hXp, hXw, hXA, hXx] at a3
        exact thn a3 fun _ s11 ⟨_, H11, I11, _, q11⟩ => again I11 c8 q11
  refine codeAny_compStart_list (loop _) ?_
  exact T.self _ 0 _ _ _ (T.keep _ _ _ st3' fun b _ o q => keep4 b o q) (loop _)
section
variable {X : Cx} {elt iter tg : Expr} {tn' : List Str} {tgr : TG} {ifs : List Expr} {scope osc : Scope} {pos : Pos} {wi : TI} {tt : TT} {te : TE}
theorem tJ (ix : List Nat) (tn' N' : List Str)
    (hxe : X.xe = fun _ _ => False) (hc : X.calm = true) (ho : X.env.scope = osc) (hN : N' = tn' ++ ix.map fun i => (X.N[i]?).getD ("" : Str)) (hnd : N'.Nodup)
    (hall : (∀ y ∈ scope.names, y.2 = .free -> osc.names.lookup y.1 = some .cell) /\ (∀ y ∈ scope.names, y.2 ≠ .cell) /\ scope.kind = .function /\ (∀ y ∈ scope.names, y.2 = .local -> scope.names.lookup y.1 = some .local) /\ (∀ y ∈ N'.drop tn'.length, scope.names.lookup y = some .free))
    (hi : PI X tg iter wi) (hg : ∀ cl C aM aU fp, PG (cp X scope cl C aM aU fp N') tg tgr)
    (ht : ∀ cl C aM aU fp, PTs (cp X scope cl C aM aU fp N') ifs tt)
    (he : ∀ cl C aM aU fp, PE (cp X scope cl C aM aU fp N') elt te)
    (hs : ∀ x, foldedSetIterable iter X.env x = pure x := by intro _; rfl) :
    PE X (.ListComp elt [⟨tg, iter, ifs, 0⟩] scope pos) (nS wi tn'.length ix tgr tt te) := by
  intro pins s σ H Q I h
  have e : eval (.ListComp elt [⟨tg, iter, ifs, 0⟩] scope pos) X.env = comprehension (.ListComp elt [⟨tg, iter, ifs, 0⟩] scope pos) scope X.env (firstIterPos [⟨tg, iter, ifs, 0⟩] pos) (newList []) false (eval iter X.env) none := by
    rw [eval_ListComp]; rfl
  rw [e]
  refine qk (use := none) (Q2 := EP X pins σ Q) ix N' hxe hc ho hN hnd hall hi hg ht he hs I h fun acc C H5 s5 o I5 cC hC pC hm q => ?_
  obtain ⟨m, hm⟩ := hm
  exact ⟨m, hm _ (I5.pin (C, o) (List.mem_append_right _ (List.mem_append_right _ (List.mem_singleton.mpr rfl)))).1, fun h' hs' => ⟨.ref acc, H5, I5.Eg cC hC pC hs', rfl, q⟩⟩
theorem sA {y : Str} {py spos : Pos} {i : Nat} (ix : List Nat) (tn' N' : List Str)
    (hxe : X.xe = fun _ _ => False) (hc : X.calm = true) (ho : X.env.scope = osc) (hN : N' = tn' ++ ix.map fun i => (X.N[i]?).getD ("" : Str)) (hnd : N'.Nodup)
    (hall : (∀ y ∈ scope.names, y.2 = .free -> osc.names.lookup y.1 = some .cell) /\ (∀ y ∈ scope.names, y.2 ≠ .cell) /\ scope.kind = .function /\ (∀ y ∈ scope.names, y.2 = .local -> scope.names.lookup y.1 = some .local) /\ (∀ y ∈ N'.drop tn'.length, scope.names.lookup y = some .free))
    (hi : PI X tg iter wi) (hg : ∀ cl C aM aU fp, PG (cp X scope cl C aM aU fp N') tg tgr)
    (ht : ∀ cl C aM aU fp, PTs (cp X scope cl C aM aU fp N') ifs tt)
    (he : ∀ cl C aM aU fp, PE (cp X scope cl C aM aU fp N') elt te)
    (hNN : X.N.Nodup) (hy : X.N[i]? = some y) (hl : X.env.scope.names.lookup y = some .local)
    (hsw : swapsWith (.ListComp elt [⟨tg, iter, ifs, 0⟩] scope pos) (some (.Name y py)) spos.line X.env = pure true := by rfl)
    (hs : ∀ x, foldedSetIterable iter X.env x = pure x := by intro _; rfl) :
    PS X (.Assign [.Name y py] (.ListComp elt [⟨tg, iter, ifs, 0⟩] scope pos) spos) (BP (nS wi tn'.length ix tgr tt te) (gq i)) := by
  intro pins s σ H D I h
  rw [exec_Assign_Name_used _ _ _ _ hsw]
  refine wpAny_bind (wpAny_standAt ?_)
  show wpAny _ _ (evalThenUse (.ListComp elt [⟨tg, iter, ifs, 0⟩] scope pos) X.env (assign (.Name y py) X.env) >>= fun _ => pure Flow.next) _ _ _
  refine wpAny_bind ?_
  show wpAny _ _ (comprehension (.ListComp elt [⟨tg, iter, ifs, 0⟩] scope pos) scope X.env (firstIterPos [⟨tg, iter, ifs, 0⟩] pos) (newList []) false (eval iter X.env) (some (assign (.Name y py) X.env)) >>= fun _ => pure ()) _ _ _
  refine wpAny_bind (qk (use := some (assign (.Name y py) X.env)) ix N' hxe hc ho hN hnd hall hi hg ht he hs I h fun acc C H5 s5 o I5 cC hC pC hm q => ?_)
  obtain ⟨m, hm⟩ := hm
  refine wpAny_assign_Name (kY (i := i) (v := .ref acc) I5 hNN hy (.inl hl) rfl (fun s6 I6 => ?_) (.inr hl))
  refine ⟨m, hm _ (I6.pin (C, o) (List.mem_append_right _ (List.mem_append_right _ (List.mem_singleton.mpr rfl)))).1, fun h' hs' => ?_⟩
  exact wpAny_pure (wpAny_pure ⟨_, H5, I6.Eg cC hC pC hs', q⟩)
end
end L2
namespace L2.FE
open PySem PySem.Spec PyProof.Rows
inductive D where
  | non | bl (b : Bool) | int (i : Int) | str (x : Str) | tup (ds : List D) | frl (ds : List D) | ref (n : Nat) | fn (x : Str) | edic | scr (ds : List D) | exc (c : Str) (fs : List (Str × Int)) | clo (f : Str) (ds : List D)
inductive O where
  | lst (ds : List D) | set (ns : List Int) | dic (kvs : List (Key × D)) | dit (kvs : List (List Key × D))
noncomputable abbrev Hh := List O
noncomputable abbrev En := List (Option D)
structure Xc where
  cls : Str
  fs : List (Str × Int)
inductive R (β : Type) where
  | ok (b : β) (h : Hh)
  | err (x : Xc) (h : Hh)
  | bad
noncomputable def R.bind {β γ : Type} (r : R β) (f : β -> Hh -> R γ) : R γ := match r with
  | .ok b h => f b h
  | .err x h => .err x h
  | .bad => .bad
inductive Fl where
  | nx (e : En) | bk (e : En) | ct (e : En) | rt (d : D)
noncomputable abbrev ME := En -> Hh -> R D
noncomputable abbrev MT := En -> Hh -> R Bool
noncomputable abbrev MA := En -> Hh -> R (List D)
noncomputable abbrev MS := En -> Hh -> R Fl
noncomputable def Fro (K : PySem.W.Frag) (H : Hp) (p : Addr) (vs : List V) : Prop :=
  (∃ o, H p = some (.frz o (.lst vs))) \/ ∃ (o : Obj) (its : Array Value) (n : Nat), K.lookup p = some o /\ o.cls = .type "list" /\ o.dict = none /\ o.data = .seq its n /\ its.size <= sizeLine /\ Vals vs its.toList
theorem Fro.sq {K : PySem.W.Frag} {H : Hp} {p : Addr} {vs : List V} (h : Fro K H p vs) : SqL K H p vs := by
  rcases h with ⟨o, h⟩ | h
  · exact .inl (.inr ⟨o, h⟩)
  · exact .inr h
noncomputable def Fr1 (H : Hp) (p : Addr) (vs : List V) : Prop := ∃ o, H p = some (.frz o (.lst vs))
theorem Fr1.fro {K : PySem.W.Frag} {H : Hp} {p : Addr} {vs : List V} (h : Fr1 H p vs) : Fro K H p vs := .inl h
theorem Fr1.sq {K : PySem.W.Frag} {H : Hp} {p : Addr} {vs : List V} (h : Fr1 H p vs) : SqL K H p vs := let ⟨o, h⟩ := h; .inl (.inr ⟨o, h⟩)
theorem Fr1.rd {H : Hp} {p : Addr} {vs : List V} (h : Fr1 H p vs) : Rd H p (.lst vs) := .inr h
noncomputable def AtO (p : Addr) (o : Obj) : HO := .frz o (.ext fun h => h.get? p = some o)
noncomputable def XFs (H : Hp) (dc : Option Addr) (fs : List (Str × Int)) : Prop := (dc = none /\ fs = []) \/ ∃ dx od, dc = some dx /\ H dx = some (.frz od (.xd (fs.map fun x => (x.1, V.int x.2))))
noncomputable def kI (H : Hp) (clos : List (Str × Addr)) : List Str -> List V -> Prop := Paired fun y v => ∃ c o u, clos.lookup y = some c /\ H c = some (AtO c o) /\ o.data = .cell (some u) /\ RelV v u
structure sJ (f x qual : Str) (ys : List Str) (params : Arguments) (body : Expr) (scope : Scope) : Prop where
  tx : ∃ (p0 p2 p3 : Pos) (qs : List (Str × Pos)), qs.map (·.1) = ys /\ body = .Call (.Name f p0) (qs.map (fun y => Expr.Name y.1 y.2) ++ [.Name x p2]) [] p3
  kind : scope.kind = .function
  co : scope.isCoroutine = false
  gen : scope.isGenerator = false
  C_ : ∀ z ∈ scope.names, z.2 ≠ .cell
  glob : scope.names.lookup f = some .globalImplicit
  loc : scope.names.lookup x = some .local
  free : ∀ y ∈ ys, scope.names.lookup y = some .free /\ (y == ("__debug__" : Str)) = false /\ (y == ("__classdict__" : Str)) = false
  nd : (f == ("__debug__" : Str)) = false /\ (x == ("__debug__" : Str)) = false
  bind : ∀ clos pm cdv ctv u, bindArgs (PySem.W.kla_fn "<lambda>" qual params body scope clos pm cdv ctv) ⟨[u], []⟩ = pure [(x, u)]
noncomputable def BC (f : Str) (clos : List (Str × Addr)) (ys : List Str) (o : Obj) (c' : Addr) (qual : Str) : Prop :=
  ∃ (params : Arguments) (body : Expr) (scope : Scope) (pm ctv : Value) (x : Str), o = PySem.W.kla_obj "<lambda>" qual params body scope clos pm c' ctv /\ sJ f x qual ys params body scope
mutual
inductive aH (K : PySem.W.Frag) (g : Str -> Option Addr) (α : List Addr) (H : Hp) : D -> V -> Prop where
  | non : aH K g α H .non .non
  | bl (b) : aH K g α H (.bl b) (.bl b)
  | int (i) : aH K g α H (.int i) (.int i)
  | str (x) : aH K g α H (.str x) (.str x)
  | ref {n p} : α[n]? = some p -> aH K g α H (.ref n) (.ref p)
  | tup {ds p vs} : H p = some (.tup vs) -> av K g α H ds vs -> aH K g α H (.tup ds) (.ref p)
  | frl {ds p vs} : Fr1 H p vs -> av K g α H ds vs -> aH K g α H (.frl ds) (.ref p)
  | scr {ds p vs} : Fro K H p vs -> av K g α H ds vs -> aH K g α H (.scr ds) (.ref p)
  | fn {x f} : g x = some f -> aH K g α H (.fn x) (.ref f)
  | edic {p o} : H p = some (.frz o (.dK [])) -> aH K g α H .edic (.ref p)
  | exc {c C p o fs} : g c = some C -> H p = some (AtO p o) -> o.cls = .ref C -> (∃ vs, o.data = .fields vs) -> XFs H o.dict fs -> aH K g α H (.exc c fs) (.ref p)
  | clo {f ds p o clos ys vs c' oc qual t vc} : H p = some (AtO p o) -> BC f clos ys o c' qual -> H c' = some (AtO c' oc) -> oc.data = .fields vc -> vc[1]? = some (.str qual t) -> kI H clos ys vs -> av K g α H ds vs -> aH K g α H (.clo f ds) (.ref p)
inductive av (K : PySem.W.Frag) (g : Str -> Option Addr) (α : List Addr) (H : Hp) : List D -> List V -> Prop where
  | nil : av K g α H [] []
  | cons {d v ds vs} : aH K g α H d v -> av K g α H ds vs -> av K g α H (d :: ds) (v :: vs)
end
structure Ex0 (K : PySem.W.Frag) (α : List Addr) (H : Hp) (α' : List Addr) (H' : Hp) : Prop where
  pre : α <+: α'
  tup : ∀ (p : Addr) (xs : List V), H p = some (.tup xs) -> H' p = some (.tup xs)
  frz : ∀ (p : Addr) (o : Obj) (u : HO), H p = some (.frz o u) -> H' p = some (.frz o u)
  tbl : ∀ (p : Addr) (ps : Array Value), H p = some (.tbl ps) -> ∃ more, H' p = some (.tbl (ps ++ more))
theorem Ex0.fro {K : PySem.W.Frag} {α α' : List Addr} {H H' : Hp} (e : Ex0 K α H α' H') (p : Addr) (xs : List V) (h : Fro K H p xs) : Fro K H' p xs := by
  rcases h with ⟨o, h⟩ | h
  · exact .inl ⟨o, e.frz _ _ _ h⟩
  · exact .inr h
theorem Ex0.fr1 {K : PySem.W.Frag} {α α' : List Addr} {H H' : Hp} (e : Ex0 K α H α' H') (p : Addr) (xs : List V) (h : Fr1 H p xs) : Fr1 H' p xs := let ⟨o, h⟩ := h; ⟨o, e.frz _ _ _ h⟩
structure Ext (K : PySem.W.Frag) (α : List Addr) (H : Hp) (α' : List Addr) (H' : Hp) : Prop extends Ex0 K α H α' H' where
  kept : ∀ p o, H p = some o -> p ∉ α -> (∀ ps, o ≠ .tbl ps) -> H' p = some o
  new : ∀ p, p ∈ α' -> p ∉ α -> H p = none
section
variable {K : PySem.W.Frag} {g : Str -> Option Addr} {α α' α'' : List Addr} {H H' H'' : Hp}
theorem Ext.keep (e : Ext K α H α' H') (p : Addr) (o : HO) (h : H p = some o) (n : p ∉ α) (t : ∀ ps, o ≠ .tbl ps := by intro _ z; cases z) : H' p = some o := e.kept p o h n t
theorem Ext.stays (e : Ext K α H α' H') {p : Addr} {o : HO} (h : H p = some o) (n : p ∉ α) : H' p ≠ none := by
  cases o with
  | tbl ps => obtain ⟨m, q⟩ := e.tbl p ps h; rw [q]; exact fun z => nomatch z
  | _ => rw [e.keep p _ h n]; exact fun z => nomatch z
theorem Ex0.refl : Ex0 K α H α H := ⟨List.prefix_refl _, fun _ _ h => h, fun _ _ _ h => h, fun _ ps h => ⟨#[], by rw [h]; simp⟩⟩
theorem Ex0.trans (a : Ex0 K α H α' H') (b : Ex0 K α' H' α'' H'') : Ex0 K α H α'' H'' := ⟨a.pre.trans b.pre, fun p xs h => b.tup p xs (a.tup p xs h), fun p o u h => b.frz p o u (a.frz p o u h), fun p ps h => by
    obtain ⟨m1, e1⟩ := a.tbl p ps h
    obtain ⟨m2, e2⟩ := b.tbl p _ e1
    exact ⟨m1 ++ m2, by rw [e2, Array.append_assoc]⟩⟩
theorem Ext.refl : Ext K α H α H := ⟨.refl, fun _ _ h _ _ => h, fun _ h n => absurd h n⟩
theorem Ext.trans (a : Ext K α H α' H') (b : Ext K α' H' α'' H'') : Ext K α H α'' H'' := ⟨a.toEx0.trans b.toEx0, fun p o h n t => b.kept p o (a.kept p o h n t) (fun z => by rw [a.new p z n] at h; cases h) t, fun p z n => by
    by_cases q : p ∈ α'
    · exact a.new p q n
    · have := b.new p z q
      cases e : H p with
      | none => rfl
      | some o => exact absurd this (a.stays e n)⟩
theorem Ex0.get (e : Ex0 K α H α' H') {n : Nat} {p : Addr} (h : α[n]? = some p) : α'[n]? = some p := by
  obtain ⟨t, rfl⟩ := e.pre
  have hl : n < α.length := by
    by_cases hl : n < α.length
    · exact hl
    · rw [List.getElem?_eq_none (by omega)] at h; cases h
  rw [List.getElem?_append_left hl]; exact h
mutual
theorem aH.ex0 (e : Ex0 K α H α' H') : ∀ {d : D} {v : V}, aH K g α H d v -> aH K g α' H' d v
  | _, _, .non => .non
  | _, _, .bl b => .bl b
  | _, _, .int i => .int i
  | _, _, .str x => .str x
  | _, _, .ref h => .ref (e.get h)
  | _, _, .tup h r => .tup (e.tup _ _ h) (av.ex0 e r)
  | _, _, .frl h r => .frl (e.fr1 _ _ h) (av.ex0 e r)
  | _, _, .scr h r => .scr (e.fro _ _ h) (av.ex0 e r)
  | _, _, .fn h => .fn h
  | _, _, .edic h => .edic (e.frz _ _ _ h)
  | _, _, .exc hg h hc hd hf => .exc hg (e.frz _ _ _ h) hc hd (hf.elim .inl fun ⟨dx, od, a, b⟩ => .inr ⟨dx, od, a, e.frz _ _ _ b⟩)
  | _, _, .clo h l hc hd hv cs r => .clo (e.frz _ _ _ h) l (e.frz _ _ _ hc) hd hv (L2.Paired.sh cs fun _ _ ⟨c, o, u, l, a, b⟩ => ⟨c, o, u, l, e.frz _ _ _ a, b⟩) (av.ex0 e r)
theorem av.ex0 (e : Ex0 K α H α' H') : ∀ {ds : List D} {vs : List V}, av K g α H ds vs -> av K g α' H' ds vs
  | _, _, .nil => .nil
  | _, _, .cons r t => .cons (aH.ex0 e r) (av.ex0 e t)
end
theorem aH.ext (e : Ext K α H α' H') {d : D} {v : V} (r : aH K g α H d v) : aH K g α' H' d v := r.ex0 e.toEx0
theorem av.ext (e : Ext K α H α' H') {d : List D} {v : List V} (r : av K g α H d v) : av K g α' H' d v := r.ex0 e.toEx0
theorem av.length : ∀ {ds : List D} {vs : List V}, av K g α H ds vs -> ds.length = vs.length
  | _, _, .nil => rfl
  | _, _, .cons _ t => by simp [av.length t]
theorem av.append : ∀ {ds es : List D} {vs us : List V}, av K g α H ds vs -> av K g α H es us -> av K g α H (ds ++ es) (vs ++ us)
  | _, _, _, _, .nil, s => s
  | _, _, _, _, .cons r t, s => .cons r (av.append t s)
theorem av.get : ∀ {ds : List D} {vs : List V} {i : Nat} {d : D}, av K g α H ds vs -> ds[i]? = some d -> ∃ v, vs[i]? = some v /\ aH K g α H d v
  | _, _, _, _, .nil, e => by simp at e
  | _, _, 0, _, .cons r _, e => by simp at e; subst e; exact ⟨_, rfl, r⟩
  | _, _, i + 1, d, .cons _ t, e => by
    obtain ⟨u, h1, h2⟩ := av.get (i := i) (d := d) t (by simpa using e)
    exact ⟨u, by simpa using h1, h2⟩
theorem av.set {d : D} {v : V} (r : aH K g α H d v) : ∀ {ds : List D} {vs : List V} (i : Nat), av K g α H ds vs -> av K g α H (ds.set i d) (vs.set i v)
  | _, _, _, .nil => .nil
  | _, _, 0, .cons _ t => .cons r t
  | _, _, i + 1, .cons q t => .cons q (av.set r i t)
theorem av.take : ∀ {ds : List D} {vs : List V} (n : Nat), av K g α H ds vs -> av K g α H (ds.take n) (vs.take n)
  | _, _, 0, _ => .nil
  | _, _, _ + 1, .nil => .nil
  | _, _, n + 1, .cons r t => .cons r (av.take n t)
theorem av.drop : ∀ {ds : List D} {vs : List V} (n : Nat), av K g α H ds vs -> av K g α H (ds.drop n) (vs.drop n)
  | _, _, 0, r => r
  | _, _, _ + 1, .nil => .nil
  | _, _, n + 1, .cons _ t => av.drop n t
theorem av.erase : ∀ {ds : List D} {vs : List V} (i : Nat), av K g α H ds vs -> av K g α H (ds.eraseIdx i) (vs.eraseIdx i)
  | _, _, _, .nil => .nil
  | _, _, 0, .cons _ t => t
  | _, _, i + 1, .cons q t => .cons q (av.erase i t)
theorem av.ints (ns : List Int) : av K g α H (ns.map D.int) (ns.map V.int) := by
  induction ns with
  | nil => exact .nil
  | cons n r ih => exact .cons (.int n) ih
theorem av.yU : ∀ {ns : List Int} {vs : List V}, av K g α H (ns.map D.int) vs -> vs = ns.map V.int
  | [], _, .nil => rfl
  | n :: r, _, .cons (.int _) t => by rw [av.yU t]; rfl
theorem av.flat {ds : List D} {vs : List V} (r : av K g α H ds vs) : ∀ k, av K g α H (List.replicate k ds).flatten (List.replicate k vs).flatten
  | 0 => .nil
  | k + 1 => by rw [List.replicate_succ, List.replicate_succ, List.flatten_cons, List.flatten_cons]; exact r.append (av.flat r k)
end
noncomputable def OAt (K : PySem.W.Frag) (g : Str -> Option Addr) (α : List Addr) (H : Hp) (p : Addr) : O -> Prop
  | .lst ds => ∃ vs, H p = some (.lst vs) /\ av K g α H ds vs
  | .set ns => H p = some (.set (fun k => ns.any (· == k)) ns.length)
  | .dic kvs => ∃ kws, H p = some (.dK kws) /\ Paired (fun (a : Key × D) (b : Key × V) => a.1 = b.1 /\ aH K g α H a.2 b.2) kvs kws
  | .dit kvs => ∃ kws, H p = some (.dT kws) /\ Paired (fun (a : List Key × D) (b : List Key × V) => a.1 = b.1 /\ aH K g α H a.2 b.2) kvs kws
noncomputable def sE (H : Hp) (q : Addr × Pos × Str) : Prop := H q.1 = some (.tbl #[]) \/ ∃ (c' : Addr) (oc : Obj) (vc : Array Value) (t : Tok), H q.1 = some (.tbl #[rawInt q.2.1.line, rawInt q.2.1.col, .ref c']) /\ H c' = some (AtO c' oc) /\ oc.data = .fields vc /\ vc[1]? = some (.str q.2.2 t)
noncomputable def Be (fd : FuncData) : Option Pos := match fd.body with
  | .stmts b => (match b.getLast? with
    | some (.Return (some (.Lambda _ _ _ pos)) _) => some pos
    | some (.Return (some (.Call _ es _ _)) _) => (match es.getLast? with | some (.Lambda _ _ _ pos) => some pos | _ => none)
    | _ => none)
  | _ => none
noncomputable def kP (K : PySem.W.Frag) (f : Addr) : Option (Addr × Pos × Str) := match K.lookup f with
  | some ⟨_, _, .func fd, _⟩ => (match Be fd, fd.code with
    | some pos, .ref c => (match K.lookup c with
      | some ⟨_, _, .fields vs, _⟩ => (match (vs[11]? : Option Value) with | some (.ref P) => some (P, pos, fd.qualname ++ ".<locals>." ++ "<lambda>") | _ => none)
      | _ => none)
    | _, _ => none)
  | _ => none
noncomputable def j1 (K : PySem.W.Frag) (H : Hp) : Prop := ∀ f P, kP K f = some P -> sE H P
structure aW (K : PySem.W.Frag) (g : Str -> Option Addr) (α : List Addr) (H : Hp) (h : Hh) : Prop where
  len : α.length = h.length
  inj : ∀ (n m : Nat) (p : Addr), α[n]? = some p -> α[m]? = some p -> n = m
  here : ∀ (n : Nat) (p : Addr) (o : O), α[n]? = some p -> h[n]? = some o -> OAt K g α H p o
  tab : j1 K H
section
variable {K : PySem.W.Frag} {g : Str -> Option Addr} {α α' : List Addr} {H H' : Hp} {h : Hh}
theorem Paired.DV {kvs : List (Key × D)} {kws : List (Key × V)} (e : Ex0 K α H α' H') (r : Paired (fun (a : Key × D) (b : Key × V) => a.1 = b.1 /\ aH K g α H a.2 b.2) kvs kws) :
    Paired (fun (a : Key × D) (b : Key × V) => a.1 = b.1 /\ aH K g α' H' a.2 b.2) kvs kws := L2.Paired.sh r fun _ _ q => ⟨q.1, q.2.ex0 e⟩
theorem Paired.Ed {kvs : List (List Key × D)} {kws : List (List Key × V)} (e : Ex0 K α H α' H') (r : Paired (fun (a : List Key × D) (b : List Key × V) => a.1 = b.1 /\ aH K g α H a.2 b.2) kvs kws) :
    Paired (fun (a : List Key × D) (b : List Key × V) => a.1 = b.1 /\ aH K g α' H' a.2 b.2) kvs kws := L2.Paired.sh r fun _ _ q => ⟨q.1, q.2.ex0 e⟩
theorem sE.mono {P : Addr × Pos × Str} (t : sE H P) (a : ∀ b ps, H b = some (.tbl ps) -> H' b = some (.tbl ps)) (z : ∀ b o u, H b = some (.frz o u) -> H' b = some (.frz o u)) : sE H' P := by
  rcases t with h | ⟨c', oc, vc, tk, h, hc, hd⟩
  · exact .inl (a _ _ h)
  · exact .inr ⟨c', oc, vc, tk, a _ _ h, z _ _ _ hc, hd⟩
theorem j1.mono (t : j1 K H) (a : ∀ b ps, H b = some (.tbl ps) -> H' b = some (.tbl ps)) (z : ∀ b o u, H b = some (.frz o u) -> H' b = some (.frz o u)) : j1 K H' := fun f P e => (t f P e).mono a z
theorem j1.upd {p : Addr} {o : HO} (t : j1 K H) (n : H p = none \/ ∃ u, H p = some u /\ (∀ ys, u ≠ .tup ys) /\ (∀ w ys, u ≠ .frz w ys) /\ ∀ ps, u ≠ .tbl ps) : j1 K (upd H p o) := by
  have ne : ∀ q u, H q = some u -> ((∃ w ys, u = .frz w ys) \/ ∃ ps, u = .tbl ps) -> q ≠ p := by
    rintro q u e z rfl
    rcases n with n | ⟨u', e', _, n2, n3⟩
    · rw [e] at n; cases n
    · rw [e] at e'; cases e'
      rcases z with ⟨w, ys, z⟩ | ⟨ps, z⟩
      · exact n2 _ _ z
      · exact n3 _ z
  intro f P e
  rcases t f P e with h | ⟨c', oc, vc, tk, h, hc, hd⟩
  · exact .inl (by rw [aJ (ne _ _ h (.inr ⟨_, rfl⟩))]; exact h)
  · exact .inr ⟨c', oc, vc, tk, by rw [aJ (ne _ _ h (.inr ⟨_, rfl⟩))]; exact h, by rw [aJ (ne _ _ hc (.inl ⟨_, _, rfl⟩))]; exact hc, hd⟩
theorem OAt.isS {p : Addr} {o : O} (h : OAt K g α H p o) : ∃ u, H p = some u /\ (∀ ys, u ≠ .tup ys) /\ (∀ w ys, u ≠ .frz w ys) /\ ∀ ps, u ≠ .tbl ps := by
  cases o with
  | lst ds => obtain ⟨vs, e, _⟩ := h; exact ⟨_, e, fun _ z => (nomatch z), fun _ _ z => (nomatch z), fun _ z => nomatch z⟩
  | set n => exact ⟨_, h, fun _ z => (nomatch z), fun _ _ z => (nomatch z), fun _ z => nomatch z⟩
  | dic kvs => obtain ⟨vs, e, _⟩ := h; exact ⟨_, e, fun _ z => (nomatch z), fun _ _ z => (nomatch z), fun _ z => nomatch z⟩
  | dit kvs => obtain ⟨vs, e, _⟩ := h; exact ⟨_, e, fun _ z => (nomatch z), fun _ _ z => (nomatch z), fun _ z => nomatch z⟩
theorem aW.mem (r : aW K g α H h) {p : Addr} (hp : p ∈ α) : ∃ u, H p = some u /\ (∀ ys, u ≠ .tup ys) /\ (∀ w ys, u ≠ .frz w ys) /\ ∀ ps, u ≠ .tbl ps := by
  obtain ⟨n, hn, e⟩ := List.getElem_of_mem hp
  have hn' : n < h.length := by rw [<- r.len]; exact hn
  exact (r.here n p _ (by rw [List.getElem?_eq_getElem hn, e]) (List.getElem?_eq_getElem hn')).isS
theorem OAt.ex0 {p : Addr} {o : O} (e : Ex0 K α H α' H') (h : OAt K g α H p o) (k : ∀ u, H p = some u -> H' p = some u) : OAt K g α' H' p o := by
  cases o with
  | lst ds => obtain ⟨vs, a, r⟩ := h; exact ⟨vs, k _ a, r.ex0 e⟩
  | set n => exact k _ h
  | dic kvs => obtain ⟨kws, a, r⟩ := h; exact ⟨kws, k _ a, Paired.DV e r⟩
  | dit kvs => obtain ⟨kws, a, r⟩ := h; exact ⟨kws, k _ a, Paired.Ed e r⟩
noncomputable def yc (H : Hp) (p : Addr) : Prop := H p = none \/ ∃ u, H p = some u /\ (∀ ys, u ≠ .tup ys) /\ (∀ w ys, u ≠ .frz w ys) /\ ∀ ps, u ≠ .tbl ps
theorem Ex0.upd {p : Addr} {o : HO} (n : yc H p) : Ex0 K α H α (upd H p o) := by
  have ne : ∀ q u, H q = some u -> ((∃ ys, u = .tup ys) \/ (∃ w ys, u = .frz w ys) \/ ∃ ps, u = .tbl ps) -> q ≠ p := by
    rintro q u e z rfl
    rcases n with n | ⟨u', e', n1, n2, n3⟩
    · rw [e] at n; cases n
    · rw [e] at e'; cases e'
      rcases z with ⟨ys, z⟩ | ⟨w, ys, z⟩ | ⟨ps, z⟩
      · exact n1 _ z
      · exact n2 _ _ z
      · exact n3 _ z
  refine ⟨List.prefix_refl _, fun q xs h => ?_, fun q o u h => ?_, fun q ps h => ⟨#[], ?_⟩⟩
  · rw [aJ (ne q _ h (.inl ⟨_, rfl⟩))]; exact h
  · rw [aJ (ne q _ h (.inr (.inl ⟨_, _, rfl⟩)))]; exact h
  · rw [aJ (ne q _ h (.inr (.inr ⟨_, rfl⟩))), h]; simp
theorem Ex0.more (e : Ex0 K α H α H') (l : List Addr) : Ex0 K α H (α ++ l) H' := ⟨List.prefix_append _ _, e.tup, e.frz, e.tbl⟩
theorem Ext.fresh {p : Addr} {o : HO} (n : H p = none) : Ext K α H α (upd H p o) := ⟨Ex0.upd (.inl n), fun q u h _ _ => by rw [aJ (bw h n)]; exact h, fun _ z m => absurd z m⟩
theorem Ext.push {p : Addr} {o : HO} (n : H p = none) : Ext K α H (α ++ [p]) (upd H p o) := ⟨(Ex0.upd (.inl n)).more _, fun q u h _ _ => by rw [aJ (bw h n)]; exact h, fun q z m => by
  rcases List.mem_append.mp z with z | z
  · exact absurd z m
  · rw [List.mem_singleton.mp z]; exact n⟩
theorem aW.off {p : Addr} {o : HO} (r : aW K g α H h) (n : yc H p) (m : p ∉ α) : aW K g α (upd H p o) h := by
  refine ⟨r.len, r.inj, fun k q u a b => (r.here k q u a b).ex0 (Ex0.upd n) fun w e => ?_, r.tab.upd n⟩
  rw [aJ]; exact e
  rintro rfl; exact m (List.mem_of_getElem? a)
theorem aW.free (r : aW K g α H h) {p : Addr} (n : H p = none) : p ∉ α := fun z => by
  obtain ⟨u, e, _⟩ := r.mem z
  rw [n] at e; cases e
theorem aW.grow {p : Addr} {o : HO} (r : aW K g α H h) (n : H p = none) : aW K g α (upd H p o) h := r.off (.inl n) (r.free n)
theorem aW.adopt {p : Addr} {u : O} (r : aW K g α H h) (n : p ∉ α) (a : OAt K g (α ++ [p]) H p u) : aW K g (α ++ [p]) H (h ++ [u]) := by
  have old : ∀ {m : Nat} {q : Addr}, (α ++ [p])[m]? = some q -> (α[m]? = some q) \/ (m = α.length /\ q = p) := by
    intro m q h1
    by_cases hm : m < α.length
    · rw [List.getElem?_append_left hm] at h1
      exact .inl h1
    · have hl : m < (α ++ [p]).length := by
        by_cases hl : m < (α ++ [p]).length
        · exact hl
        · rw [List.getElem?_eq_none (by omega)] at h1; cases h1
      have e : m = α.length := by simp at hl; omega
      subst e
      rw [List.getElem?_append_right (Nat.le_refl _)] at h1
      simp at h1
      exact .inr ⟨rfl, h1.symm⟩
  refine ⟨by simp [r.len], fun m k q h1 h2 => ?_, fun m q w h1 h2 => ?_, r.tab⟩
  · rcases old h1 with a1 | ⟨e1, e2⟩
    · rcases old h2 with a2 | ⟨e3, e4⟩
      · exact r.inj m k q a1 a2
      · rw [e4] at a1; exact absurd (List.mem_of_getElem? a1) n
    · rcases old h2 with a2 | ⟨e3, e4⟩
      · rw [e2] at a2; exact absurd (List.mem_of_getElem? a2) n
      · rw [e1, e3]
  · rcases old h1 with a1 | ⟨e1, e2⟩
    · have hm : m < α.length := by
        by_cases hl : m < α.length
        · exact hl
        · rw [List.getElem?_eq_none (by omega)] at a1; cases a1
      rw [List.getElem?_append_left (by rw [<- r.len]; exact hm)] at h2
      exact (r.here m q w a1 h2).ex0 (Ex0.refl.more _) fun _ z => z
    · subst e1 e2
      rw [r.len, List.getElem?_append_right (Nat.le_refl _)] at h2
      simp at h2
      subst h2
      exact a
theorem aW.push {p : Addr} {o : HO} {u : O} (r : aW K g α H h) (n : H p = none) (a : OAt K g (α ++ [p]) (upd H p o) p u) : aW K g (α ++ [p]) (upd H p o) (h ++ [u]) := (r.grow n).adopt (r.free n) a
theorem Ext.write {p : Addr} {o : HO} {k : Nat} (r : aW K g α H h) (hk : α[k]? = some p) : Ext K α H α (upd H p o) :=
  ⟨Ex0.upd (.inr (r.mem (List.mem_of_getElem? hk))), fun q u h m _ => by
    rw [aJ]; exact h
    rintro rfl; exact m (List.mem_of_getElem? hk), fun _ z m => absurd z m⟩
theorem aW.write {p : Addr} {o : HO} {u' : O} {k : Nat} (r : aW K g α H h) (hk : α[k]? = some p) (a : OAt K g α (upd H p o) p u') : aW K g α (upd H p o) (h.set k u') := by
  have x : Ext K α H α (upd H p o) := Ext.write r hk
  refine ⟨by simp [r.len], r.inj, fun m q w h1 h2 => ?_, r.tab.upd (.inr (r.mem (List.mem_of_getElem? hk)))⟩
  rw [List.getElem?_set] at h2
  by_cases hm : k = m
  · subst hm
    rw [if_pos rfl] at h2
    split at h2
    · cases h2; rw [h1] at hk; cases hk; exact a
    · cases h2
  · rw [if_neg hm] at h2
    refine (r.here m q w h1 h2).ex0 x.toEx0 fun z e => ?_
    rw [aJ]; exact e
    rintro rfl; exact hm (r.inj _ _ _ hk h1)
end
noncomputable abbrev GG := Str -> Option Addr
noncomputable abbrev EE := List Addr -> Hp -> Xc -> Prop
structure jz (K : PySem.W.Frag) (g : GG) (α : List Addr) (H : Hp) (env : En) (σ : St) : Prop where
  len : env.length = σ.length
  vars : ∀ (i : Nat) (d : D), env[i]? = some (some d) -> ∃ v, σ[i]? = some (some v) /\ aH K g α H d v
structure dX (K : PySem.W.Frag) (g : GG) (α : List Addr) (H : Hp) (env : En) (σ : St) (h : Hh) : Prop where
  heap : aW K g α H h
  vs : jz K g α H env σ
noncomputable def WQ (K : PySem.W.Frag) (g : GG) (ε : EE) (α : List Addr) (H : Hp) {β : Type} (r : R β) (k : β -> Hh -> Prop) : Prop := match r with
  | .ok b h => k b h
  | .err x h => ∀ α' H', Ext K α H α' H' -> aW K g α' H' h -> ε α' H' x
  | .bad => False
section
variable {K : PySem.W.Frag} {g : GG} {ε : EE} {α α' : List Addr} {H H' : Hp} {β γ : Type}
theorem WQ.bind {r : R β} {f : β -> Hh -> R γ} {k : γ -> Hh -> Prop} (w : WQ K g ε α H (r.bind f) k) : WQ K g ε α H r fun b h => WQ K g ε α H (f b h) k := by
  cases r <;> exact w
theorem WQ.ext {r : R β} {k : β -> Hh -> Prop} (e : Ext K α H α' H') (w : WQ K g ε α H r k) : WQ K g ε α' H' r k := by
  cases r with
  | ok b h => exact w
  | err x h => exact fun a b c d => w a b (e.trans c) d
  | bad => exact w
theorem WQ.mono {r : R β} {k k' : β -> Hh -> Prop} (w : WQ K g ε α H r k) (m : ∀ b h, r = .ok b h -> k b h -> k' b h) : WQ K g ε α H r k' := by
  cases r with
  | ok b h => exact m b h rfl w
  | err x h => exact w
  | bad => exact w
theorem jz.ext {env : En} {σ : St} (v : jz K g α H env σ) (e : Ext K α H α' H') : jz K g α' H' env σ :=
  ⟨v.len, fun i d h => let ⟨x, a, b⟩ := v.vars i d h; ⟨x, a, b.ext e⟩⟩
theorem dX.ext {env : En} {σ : St} {h h' : Hh} (v : dX K g α H env σ h) (e : Ext K α H α' H') (r : aW K g α' H' h') : dX K g α' H' env σ h' := ⟨r, v.vs.ext e⟩
theorem jz.set {env : En} {σ : St} {i : Nat} {d : D} {x : V} (v : jz K g α H env σ) (r : aH K g α H d x) : jz K g α H (env.set i (some d)) (σ.set i (some x)) := by
  refine ⟨by simp [v.len], fun j e h => ?_⟩
  rw [List.getElem?_set] at h ⊢
  by_cases hj : i = j
  · subst hj
    rw [if_pos rfl] at h ⊢
    have hl := v.len
    split at h
    · rw [if_pos (by omega)]
      cases h
      exact ⟨x, rfl, r⟩
    · cases h
  · rw [if_neg hj] at h ⊢
    exact v.vars j e h
end
noncomputable def aR (K : PySem.W.Frag) (g : GG) (α : List Addr) (H : Hp) (Q : VK) : D -> Hh -> Prop := fun d h => ∀ v H' α', Ext K α H α' H' -> aW K g α' H' h -> aH K g α' H' d v -> Q v H'
noncomputable def l9 (K : PySem.W.Frag) (g : GG) (α : List Addr) (H : Hp) (Q : Bool -> Hp -> Prop) : Bool -> Hh -> Prop := fun b h => ∀ H' α', Ext K α H α' H' -> aW K g α' H' h -> Q b H'
noncomputable def DG (K : PySem.W.Frag) (g : GG) (α : List Addr) (H : Hp) (Q : List V -> Hp -> Prop) : List D -> Hh -> Prop := fun ds h => ∀ vs H' α', Ext K α H α' H' -> aW K g α' H' h -> av K g α' H' ds vs -> Q vs H'
noncomputable def cU (K : PySem.W.Frag) (g : GG) (α : List Addr) (H : Hp) (E : Ends) : Fl -> Hh -> Prop := fun fl h => ∀ H' α', Ext K α H α' H' -> aW K g α' H' h -> match fl with
  | .nx e => ∀ σ, jz K g α' H' e σ -> E.nx σ H'
  | .bk e => ∀ σ, jz K g α' H' e σ -> E.bk σ H'
  | .ct e => ∀ σ, jz K g α' H' e σ -> E.ct σ H'
  | .rt d => ∀ v, aH K g α' H' d v -> E.rt v H'
noncomputable def tM (K : PySem.W.Frag) (g : GG) (ε : EE) (m : ME) : TE := fun σ H Q => ∃ α env h, dX K g α H env σ h /\ WQ K g ε α H (m env h) (aR K g α H Q)
noncomputable def tMT (K : PySem.W.Frag) (g : GG) (ε : EE) (m : MT) : TT := fun σ H Q => ∃ α env h, dX K g α H env σ h /\ WQ K g ε α H (m env h) (l9 K g α H Q)
noncomputable def tMA (K : PySem.W.Frag) (g : GG) (ε : EE) (m : MA) : TA := fun σ H Q => ∃ α env h, dX K g α H env σ h /\ WQ K g ε α H (m env h) (DG K g α H Q)
noncomputable def tMS (K : PySem.W.Frag) (g : GG) (ε : EE) (m : MS) : TS := fun E σ H => ∃ α env h, dX K g α H env σ h /\ WQ K g ε α H (m env h) (cU K g α H E)
section
variable {K : PySem.W.Frag} {g : GG} {ε : EE} {α α' : List Addr} {H H' : Hp} {env : En} {σ : St} {h : Hh}
theorem aR.ext {Q : VK} {d : D} (e : Ext K α H α' H') (p : aR K g α H Q d h) : aR K g α' H' Q d h := fun v H2 α2 e2 r rd => p v H2 α2 (e.trans e2) r rd
theorem l9.ext {Q : Bool -> Hp -> Prop} {d : Bool} (e : Ext K α H α' H') (p : l9 K g α H Q d h) : l9 K g α' H' Q d h := fun H2 α2 e2 r => p H2 α2 (e.trans e2) r
theorem cU.ext {E : Ends} {d : Fl} (e : Ext K α H α' H') (p : cU K g α H E d h) : cU K g α' H' E d h := fun H2 α2 e2 r => p H2 α2 (e.trans e2) r
theorem WQ.post {Q : VK} {r : R D} (e : Ext K α H α' H') (w : WQ K g ε α H r (aR K g α H Q)) : WQ K g ε α' H' r (aR K g α' H' Q) := (w.ext e).mono fun _ _ _ p => p.ext e
theorem WQ.D5 {Q : Bool -> Hp -> Prop} {r : R Bool} (e : Ext K α H α' H') (w : WQ K g ε α H r (l9 K g α H Q)) : WQ K g ε α' H' r (l9 K g α' H' Q) := (w.ext e).mono fun _ _ _ p => p.ext e
theorem WQ.vm {E : Ends} {r : R Fl} (e : Ext K α H α' H') (w : WQ K g ε α H r (cU K g α H E)) : WQ K g ε α' H' r (cU K g α' H' E) := (w.ext e).mono fun _ _ _ p => p.ext e
theorem tM.use {m : ME} {Q : VK} {k : D -> Hh -> Prop} (s : dX K g α H env σ h) (w : WQ K g ε α H (m env h) k)
    (q : ∀ d h' v H' α', Ext K α H α' H' -> dX K g α' H' env σ h' -> aH K g α' H' d v -> k d h' -> Q v H') : tM K g ε m σ H Q :=
  ⟨α, env, h, s, w.mono fun d h' _ kk v H' α' e r rd => q d h' v H' α' e (s.ext e r) rd kk⟩
theorem tMT.use {m : MT} {Q : Bool -> Hp -> Prop} {k : Bool -> Hh -> Prop} (s : dX K g α H env σ h) (w : WQ K g ε α H (m env h) k)
    (q : ∀ d h' H' α', Ext K α H α' H' -> dX K g α' H' env σ h' -> k d h' -> Q d H') : tMT K g ε m σ H Q :=
  ⟨α, env, h, s, w.mono fun d h' _ kk H' α' e r => q d h' H' α' e (s.ext e r) kk⟩
theorem tMA.use {m : MA} {Q : List V -> Hp -> Prop} {k : List D -> Hh -> Prop} (s : dX K g α H env σ h) (w : WQ K g ε α H (m env h) k)
    (q : ∀ d h' v H' α', Ext K α H α' H' -> dX K g α' H' env σ h' -> av K g α' H' d v -> k d h' -> Q v H') : tMA K g ε m σ H Q :=
  ⟨α, env, h, s, w.mono fun d h' _ kk v H' α' e r rd => q d h' v H' α' e (s.ext e r) rd kk⟩
theorem aR.now {Q : VK} {d : D} {v : V} (p : aR K g α H Q d h) (r : aW K g α H h) (rd : aH K g α H d v) : Q v H := p v H α Ext.refl r rd
end
theorem PE.imp {X : Cx} {e : Expr} {t t' : TE} (h : PE X e t) (i : ∀ σ H Q, t' σ H Q -> t σ H Q) : PE X e t' := fun pins s σ H Q I w => h pins s σ H Q I (i σ H Q w)
theorem PT.imp {X : Cx} {e : Expr} {t t' : TT} (h : PT X e t) (i : ∀ σ H Q, t' σ H Q -> t σ H Q) : PT X e t' := fun pins s σ H Q I w => h pins s σ H Q I (i σ H Q w)
theorem PW.imp {X : Cx} {e : Expr} {t t' : TT} (h : PW X e t) (i : ∀ σ H Q, t' σ H Q -> t σ H Q) : PW X e t' := fun wh pins s σ H Q I w => h wh pins s σ H Q I (i σ H Q w)
theorem PA.imp {X : Cx} {e : List Expr} {t t' : TA} (h : PA X e t) (i : ∀ σ H Q, t' σ H Q -> t σ H Q) : PA X e t' := fun p pins s σ H Q I w => h p pins s σ H Q I (i σ H Q w)
theorem PS.imp {X : Cx} {e : Stmt} {t t' : TS} (h : PS X e t) (i : ∀ σ H Q, t' σ H Q -> t σ H Q) : PS X e t' := fun pins s σ H Q I w => h pins s σ H Q I (i Q σ H w)
theorem PSs.imp {X : Cx} {e : List Stmt} {t t' : TS} (h : PSs X e t) (i : ∀ σ H Q, t' σ H Q -> t σ H Q) : PSs X e t' := fun pins s σ H Q I w => h pins s σ H Q I (i Q σ H w)
noncomputable def ag (i : Nat) : ME := fun env h => match env[i]? with
  | some (some d) => .ok d h
  | _ => .bad
noncomputable def cC (d : D) : ME := fun _ h => .ok d h
noncomputable def ar (f : D -> D -> Hh -> R D) (a b : ME) : ME := fun env h => (a env h).bind fun x h1 => (b env h1).bind fun y h2 => f x y h2
noncomputable def cUn (f : D -> Hh -> R D) (a : ME) : ME := fun env h => (a env h).bind fun x h1 => f x h1
noncomputable def ak : MA := fun _ h => .ok [] h
noncomputable def aa (a : ME) (r : MA) : MA := fun env h => (a env h).bind fun x h1 => (r env h1).bind fun xs h2 => .ok (x :: xs) h2
noncomputable def ai (f : List D -> Hh -> R D) (a : MA) : ME := fun env h => (a env h).bind fun xs h1 => f xs h1
noncomputable def aC (f : D -> Hh -> R Bool) (a : ME) : MT := fun env h => (a env h).bind fun x h1 => f x h1
noncomputable def iL (a : MT) : MT := fun env h => (a env h).bind fun b h1 => .ok (!b) h1
noncomputable def jU (a b : MT) : MT := fun env h => (a env h).bind fun x h1 => if x = true then b env h1 else .ok false h1
noncomputable def t8 (a b : MT) : MT := fun env h => (a env h).bind fun x h1 => if x = true then .ok true h1 else b env h1
noncomputable def cIf (c : MT) (a b : ME) : ME := fun env h => (c env h).bind fun x h1 => if x = true then a env h1 else b env h1
noncomputable def asB : D -> Hh -> R Bool
  | .bl b, h => .ok b h
  | _, _ => .bad
noncomputable def vx (a b : ME) : ME := fun env h => (a env h).bind fun x h1 => (asB x h1).bind fun k h2 => if k = true then b env h2 else .ok (.bl false) h2
noncomputable def yC (a : ME) : ME := fun env h => (a env h).bind fun x h1 => (asB x h1).bind fun k h2 => .ok (.bl (!k)) h2
noncomputable def jX (f f' : D -> D -> Hh -> R D) (a b c : ME) : ME := fun env h => (a env h).bind fun x h1 => (b env h1).bind fun y h2 => (f x y h2).bind fun z h3 => (asB z h3).bind fun k h4 =>
  if k = true then (c env h4).bind fun w h5 => f' y w h5 else .ok (.bl false) h4
noncomputable def eD (K : PySem.W.Frag) (g : GG) (ε : EE) (f : D -> D -> Hh -> R D) (r : R2) : Prop :=
  ∀ (α : List Addr) (H : Hp) (h : Hh) (a b : D) (x y : V) (Q : VK), aW K g α H h -> aH K g α H a x -> aH K g α H b y -> WQ K g ε α H (f a b h) (aR K g α H Q) -> r x y H Q
noncomputable def D_ (K : PySem.W.Frag) (g : GG) (ε : EE) (f : D -> Hh -> R D) (r : V -> Hp -> VK -> Prop) : Prop :=
  ∀ (α : List Addr) (H : Hp) (h : Hh) (a : D) (x : V) (Q : VK), aW K g α H h -> aH K g α H a x -> WQ K g ε α H (f a h) (aR K g α H Q) -> r x H Q
noncomputable def Ew (K : PySem.W.Frag) (g : GG) (ε : EE) (f : D -> Hh -> R Bool) (r : V -> Hp -> (Bool -> Hp -> Prop) -> Prop) : Prop :=
  ∀ (α : List Addr) (H : Hp) (h : Hh) (a : D) (x : V) (Q : Bool -> Hp -> Prop), aW K g α H h -> aH K g α H a x -> WQ K g ε α H (f a h) (l9 K g α H Q) -> r x H Q
noncomputable def rj (K : PySem.W.Frag) (g : GG) (ε : EE) (f : List D -> Hh -> R D) (r : List V -> Hp -> VK -> Prop) : Prop :=
  ∀ (α : List Addr) (H : Hp) (h : Hh) (a : List D) (x : List V) (Q : VK), aW K g α H h -> av K g α H a x -> WQ K g ε α H (f a h) (aR K g α H Q) -> r x H Q
noncomputable def Cy (K : PySem.W.Frag) (g : GG) (ε : EE) (f : D -> List D -> Hh -> R D) (r : V -> List V -> Hp -> VK -> Prop) : Prop :=
  ∀ (α : List Addr) (H : Hp) (h : Hh) (o : D) (a : List D) (y : V) (x : List V) (Q : VK), aW K g α H h -> aH K g α H o y -> av K g α H a x -> WQ K g ε α H (f o a h) (aR K g α H Q) -> r y x H Q
section
variable {X : Cx} {g : GG} {ε : EE} {a b c : Expr} {ma mb mc : ME} {pos : Pos}
theorem ae (i : Nat) {x : Str} {pos : Pos} (hN : X.N[i]? = some x := by rfl) (hv : Vis X.env.scope x := by first | exact Or.inl rfl | exact Or.inr (Or.inl rfl) | exact Or.inr (Or.inr rfl)) (hd : (x == ("__debug__" : Str)) = false := by decide)
    (hcd : (x == ("__classdict__" : Str)) = false := by decide) : PE X (.Name x pos) (tM X.K g ε (ag i)) := by
  refine PE.imp (BV hN hv hd hcd) fun σ H Q ⟨α, env, h, s, w⟩ => ?_
  unfold ag at w
  cases e : env[i]? with
  | none => rw [e] at w; exact w.elim
  | some d =>
    cases d with
    | none => rw [e] at w; exact w.elim
    | some d =>
      rw [e] at w
      obtain ⟨v, hv, rd⟩ := s.vs.vars i d e
      exact ⟨v, hv, aR.now w s.heap rd⟩
theorem vJ {v : V} {d : D} {Q : VK} {σ : St} {H : Hp} (rd : ∀ α, aH X.K g α H d v) (t : tM X.K g ε (cC d) σ H Q) : tC v σ H Q := by
  obtain ⟨α, env, h, s, w⟩ := t
  exact aR.now w s.heap (rd α)
theorem ax {i j pos} : PE X (.Constant (.int i) j pos) (tM X.K g ε (cC (.int i))) := PE.imp BM fun _ _ _ t => vJ (fun _ => .int i) t
theorem jT {i j pos} : PE X (.Constant (.bool i) j pos) (tM X.K g ε (cC (.bl i))) := PE.imp DW fun _ _ _ t => vJ (fun _ => .bl i) t
theorem uN {j pos} : PE X (.Constant .none j pos) (tM X.K g ε (cC .non)) := PE.imp CS fun _ _ _ t => vJ (fun _ => .non) t
theorem kO {x : Str} {i : Int} {t : Tok} {pos : Pos} (hg : Gl X x) (hm : X.mg x = some (.int i t)) (hd : (x == ("__debug__" : Str)) = false := by decide) : PE X (.Name x pos) (tM X.K g ε (cC (.int i))) :=
  PE.imp (Ax (v := .int i) hg hm ⟨t, rfl⟩ hd) fun _ _ _ t => vJ (fun _ => .int i) t
theorem qT {f : D -> D -> Hh -> R D} {r : R2} {K : PySem.W.Frag} (im : eD K g ε f r) {σ : St} {H : Hp} {Q : VK} (t : tM K g ε (ar f ma mb) σ H Q) : tOp r (tM K g ε ma) (tM K g ε mb) σ H Q := by
  obtain ⟨α, env, h, s, w⟩ := t
  refine tM.use s w.bind fun d1 h1 v1 H1 α1 e1 s1 r1 w1 => ?_
  refine tM.use s1 (w1.ext e1).bind fun d2 h2 v2 H2 α2 e2 s2 r2 w2 => ?_
  exact im α2 H2 h2 d1 d2 v1 v2 Q s2.heap (r1.ext e2) r2 ((w2.ext e2).mono fun _ _ _ p => p.ext (e1.trans e2))
theorem aQ {op : Operator} {r : R2} {f : D -> D -> Hh -> R D} (ho : OpR X (binaryOp op) r) (im : eD X.K g ε f r) (ha : PE X a (tM X.K g ε ma)) (hb : PE X b (tM X.K g ε mb)) : PE X (.BinOp a op b pos) (tM X.K g ε (ar f ma mb)) :=
  PE.imp (EA ho ha hb) fun _ _ _ t => qT im t
theorem uS {op : CmpOp} {r : R2} {f : D -> D -> Hh -> R D} (ho : OpR X (compareOp op) r) (im : eD X.K g ε f r) (ha : PE X a (tM X.K g ε ma)) (hb : PE X b (tM X.K g ε mb)) (hm : behindInMarks op b = false) : PE X (.Compare a [op] [b] pos) (tM X.K g ε (ar f ma mb)) :=
  PE.imp (Au ho ha hb hm) fun _ _ _ t => qT im t
theorem tj {K : PySem.W.Frag} {m : ME} {t : TE} (ht : ∀ σ H Q, tM K g ε m σ H Q -> t σ H Q) {σ : St} {H : Hp} {Q : Bool -> Hp -> Prop} (w : tMT K g ε (aC asB m) σ H Q) : xE t σ H Q := by
  obtain ⟨α, env, h, s, w⟩ := w
  refine ht _ _ _ (tM.use s w.bind fun d1 h1 v1 H1 α1 e1 s1 r1 w1 => ?_)
  unfold asB at w1
  cases r1 with
  | bl k => exact ⟨k, rfl, w1 H1 α1 e1 s1.heap⟩
  | _ => exact w1.elim
theorem bQ {op : CmpOp} {r : R2} {f : D -> D -> Hh -> R D} (ho : OpR X (compareOp op) r) (im : eD X.K g ε f r) (ha : PE X a (tM X.K g ε ma)) (hb : PE X b (tM X.K g ε mb)) (hm : behindInMarks op b = false) : PT X (.Compare a [op] [b] pos) (tMT X.K g ε (aC asB (ar f ma mb))) :=
  PT.imp (Ap ho ha hb hm) fun _ _ _ t => tj (fun _ _ _ u => qT im u) t
theorem pJ {f f' : D -> D -> Hh -> R D} {r r' : R2} {K : PySem.W.Frag} (im : eD K g ε f r) (im' : eD K g ε f' r') {σ : St} {H : Hp} {Q : VK} (t : tM K g ε (jX f f' ma mb mc) σ H Q) : uh r r' (tM K g ε ma) (tM K g ε mb) (tM K g ε mc) σ H Q := by
  obtain ⟨α, env, h, s, w⟩ := t
  refine tM.use s w.bind fun d1 h1 v1 H1 α1 e1 s1 r1 w1 => ?_
  refine tM.use s1 (w1.ext e1).bind fun d2 h2 v2 H2 α2 e2 s2 r2 w2 => ?_
  refine im α2 H2 h2 d1 d2 v1 v2 _ s2.heap (r1.ext e2) r2 ((w2.ext e2).bind.mono fun z h3 _ w3 v3 H3 α3 e3 hr3 r3 => ?_)
  have w4 := w3.bind
  unfold asB at w4
  cases r3 with
  | bl k =>
    refine ⟨k, rfl, ?_⟩
    have s3 := s2.ext e3 hr3
    cases k with
    | true =>
      have w5 : WQ K g ε α2 H2 ((mc env h3).bind fun w h5 => f' d2 w h5) _ := w4
      rw [if_pos rfl]
      refine tM.use s3 (w5.ext e3).bind fun d4 h4 v4 H4 α4 e4 s4 r4 w6 => ?_
      exact im' α4 H4 h4 d2 d4 v2 v4 Q s4.heap (r2.ext (e3.trans e4)) r4 ((w6.ext e4).mono fun _ _ _ p => p.ext (e1.trans (e2.trans (e3.trans e4))))
    | false =>
      rw [if_neg Bool.false_ne_true]
      have w5 : aR K g α H Q (.bl false) h3 := w4
      exact w5 _ H3 α3 (e1.trans (e2.trans e3)) s3.heap (.bl false)
  | _ => exact w4.elim
theorem xY {op op' : CmpOp} {r r' : R2} {f f' : D -> D -> Hh -> R D} (ho : OpR X (compareOp op) r) (ho' : OpR X (compareOp op') r') (im : eD X.K g ε f r) (im' : eD X.K g ε f' r') (ha : PE X a (tM X.K g ε ma)) (hb : PE X b (tM X.K g ε mb)) (hc : PE X c (tM X.K g ε mc))
    (hm : lastMarks [op, op'] [b, c] = false := by with_unfolding_all rfl) : PE X (.Compare a [op, op'] [b, c] pos) (tM X.K g ε (jX f f' ma mb mc)) := PE.imp (xJ ho ho' ha hb hc hm) fun _ _ _ t => pJ im im' t
theorem tO {op op' : CmpOp} {r r' : R2} {f f' : D -> D -> Hh -> R D} (ho : OpR X (compareOp op) r) (ho' : OpR X (compareOp op') r') (im : eD X.K g ε f r) (im' : eD X.K g ε f' r') (ha : PE X a (tM X.K g ε ma)) (hb : PE X b (tM X.K g ε mb)) (hc : PE X c (tM X.K g ε mc))
    (hm : lastMarks [op, op'] [b, c] = false := by with_unfolding_all rfl) : PT X (.Compare a [op, op'] [b, c] pos) (tMT X.K g ε (aC asB (jX f f' ma mb mc))) := PT.imp (yu ho ho' ha hb hc hm) fun _ _ _ t => tj (fun _ _ _ u => pJ im im' u) t
theorem tS {op : UnaryOp} {r : V -> Hp -> VK -> Prop} {f : D -> Hh -> R D} (ho : UnR X (unaryOp op) r) (im : D_ X.K g ε f r) (ha : PE X a (tM X.K g ε ma)) : PE X (.UnaryOp op a pos) (tM X.K g ε (cUn f ma)) :=
  PE.imp (EG ho ha) fun σ H Q ⟨α, env, h, s, w⟩ => tM.use s w.bind fun d1 h1 v1 H1 α1 e1 s1 r1 w1 => im α1 H1 h1 d1 v1 Q s1.heap r1 (w1.post e1)
theorem fj {r : R2} {f : D -> D -> Hh -> R D} (hr : IxR X r) (im : eD X.K g ε f r) (ha : PE X a (tM X.K g ε ma)) (hb : PE X b (tM X.K g ε mb)) (hs : vg b) : PE X (.Subscript a b pos) (tM X.K g ε (ar f ma mb)) :=
  PE.imp (Ec hr ha hb hs) fun _ _ _ t => qT im t
theorem gx {f : D -> Hh -> R Bool} (im : Ew X.K g ε f (fun x H Q => ∃ k, AG X.K x H k /\ Q k H)) (ha : PE X a (tM X.K g ε ma)) (he : ∀ whole, isTrue a X.env whole = (do let v ← whole; standAt a.pos; holding [v] (truthy v))) : PT X a (tMT X.K g ε (aC f ma)) :=
  PT.imp (yh ha he) fun σ H Q ⟨α, env, h, s, w⟩ => tM.use s w.bind fun d1 h1 v1 H1 α1 e1 s1 r1 w1 => im α1 H1 h1 d1 v1 Q s1.heap r1 (w1.D5 e1)
theorem i8 {mt : MT} (ha : PT X a (tMT X.K g ε mt)) : PT X (.UnaryOp .Not a pos) (tMT X.K g ε (iL mt)) :=
  PT.imp (C6 ha) fun σ H Q ⟨α, env, h, s, w⟩ => tMT.use s w.bind fun d1 h1 H1 α1 e1 s1 w1 => w1 H1 α1 e1 s1.heap
end
section
variable {X : Cx} {g : GG} {ε : EE} {a b c e : Expr} {es : List Expr} {rest : List Expr} {ma mb mc me : ME} {mt mu : MT} {pos : Pos}
theorem rQ (ha : PT X a (tMT X.K g ε mt)) : PW X (.BoolOp .And [a] pos) (tMT X.K g ε mt) := pw_and1 ha
theorem ug (ha : PT X a (tMT X.K g ε mt)) : PW X (.BoolOp .Or [a] pos) (tMT X.K g ε mt) := pw_or1 ha
theorem uT (ha : PT X a (tMT X.K g ε mt)) (hb : PW X (.BoolOp .And (b :: rest) pos) (tMT X.K g ε mu)) : PW X (.BoolOp .And (a :: b :: rest) pos) (tMT X.K g ε (jU mt mu)) :=
  PW.imp (pw_and ha hb) fun σ H Q ⟨α, env, h, s, w⟩ => tMT.use s w.bind fun d1 h1 H1 α1 e1 s1 w1 => by
    cases d1 with
    | true => rw [if_pos rfl] at w1 ⊢; exact tMT.use s1 (w1.ext e1) fun d2 h2 H2 α2 e2 s2 w2 => w2 H2 α2 (e1.trans e2) s2.heap
    | false => rw [if_neg Bool.false_ne_true] at w1 ⊢; exact w1 H1 α1 e1 s1.heap
theorem vh (ha : PT X a (tMT X.K g ε mt)) (hb : PW X (.BoolOp .Or (b :: rest) pos) (tMT X.K g ε mu)) : PW X (.BoolOp .Or (a :: b :: rest) pos) (tMT X.K g ε (t8 mt mu)) :=
  PW.imp (pw_or ha hb) fun σ H Q ⟨α, env, h, s, w⟩ => tMT.use s w.bind fun d1 h1 H1 α1 e1 s1 w1 => by
    cases d1 with
    | true => rw [if_pos rfl] at w1 ⊢; exact w1 H1 α1 e1 s1.heap
    | false => rw [if_neg Bool.false_ne_true] at w1 ⊢; exact tMT.use s1 (w1.ext e1) fun d2 h2 H2 α2 e2 s2 w2 => w2 H2 α2 (e1.trans e2) s2.heap
theorem tQ (hc : PT X c (tMT X.K g ε mt)) (ha : PE X a (tM X.K g ε ma)) (hb : PE X b (tM X.K g ε mb)) : PE X (.IfExp c a b pos) (tM X.K g ε (cIf mt ma mb)) :=
  PE.imp (ze hc ha hb) fun σ H Q ⟨α, env, h, s, w⟩ => tMT.use s w.bind fun d1 h1 H1 α1 e1 s1 w1 => by
    cases d1 with
    | true => rw [if_pos rfl] at w1 ⊢; exact tM.use s1 (w1.ext e1) fun d2 h2 v2 H2 α2 e2 s2 r2 w2 => w2 v2 H2 α2 (e1.trans e2) s2.heap r2
    | false => rw [if_neg Bool.false_ne_true] at w1 ⊢; exact tM.use s1 (w1.ext e1) fun d2 h2 v2 H2 α2 e2 s2 r2 w2 => w2 v2 H2 α2 (e1.trans e2) s2.heap r2
theorem yx {op} (h : PE X a (tM X.K g ε ma)) : PE X (.BoolOp op [a] pos) (tM X.K g ε ma) := B2 h
theorem xG {K : PySem.W.Frag} {α : List Addr} {H H1 : Hp} {α1 : List Addr} {d : D} {v : V} {h : Hh} {β : Type} {f : Bool -> Hh -> R β} {k : β -> Hh -> Prop} (r : aH K g α1 H1 d v) (w : WQ K g ε α H ((asB d h).bind f) k) : ∃ b, v = .bl b /\ d = .bl b /\ WQ K g ε α H (f b h) k := by
  cases r with
  | bl b => exact ⟨b, rfl, rfl, w⟩
  | _ => exact w.elim
theorem y_ (ha : PE X a (tM X.K g ε ma)) (hb : PE X (.BoolOp .And (b :: rest) pos) (tM X.K g ε mb)) : PE X (.BoolOp .And (a :: b :: rest) pos) (tM X.K g ε (vx ma mb)) :=
  PE.imp (De ha hb) fun σ H Q ⟨α, env, h, s, w⟩ => tM.use s w.bind fun d1 h1 v1 H1 α1 e1 s1 r1 w1 => by
    obtain ⟨k, rfl, rfl, w2⟩ := xG r1 w1
    refine ⟨k, rfl, ?_⟩
    cases k with
    | true => rw [if_pos rfl] at w2 ⊢; exact tM.use s1 (w2.ext e1) fun d2 h2 v2 H2 α2 e2 s2 r2 w2 => w2 v2 H2 α2 (e1.trans e2) s2.heap r2
    | false => rw [if_neg Bool.false_ne_true] at w2 ⊢; exact w2 _ H1 α1 e1 s1.heap (.bl false)
theorem B6 (ha : PE X a (tM X.K g ε ma)) : PE X (.UnaryOp .Not a pos) (tM X.K g ε (yC ma)) :=
  PE.imp (Dd ha) fun σ H Q ⟨α, env, h, s, w⟩ => tM.use s w.bind fun d1 h1 v1 H1 α1 e1 s1 r1 w1 => by
    obtain ⟨k, rfl, rfl, w2⟩ := xG r1 w1
    exact ⟨k, rfl, w2 _ H1 α1 e1 s1.heap (.bl _)⟩
variable {mr : MA}
theorem aj : PA X [] (tMA X.K g ε ak) := PA.imp r6 fun σ H Q ⟨α, env, h, s, w⟩ => w [] H α Ext.refl s.heap .nil
theorem af (ha : PE X e (tM X.K g ε ma)) (hr : PA X es (tMA X.K g ε mr)) (hs : starEach (e :: es) X.env = (false, eval e X.env) :: starEach es X.env := by rfl) : PA X (e :: es) (tMA X.K g ε (aa ma mr)) :=
  PA.imp (k8 ha hr hs) fun σ H Q ⟨α, env, h, s, w⟩ => tM.use s w.bind fun d1 h1 v1 H1 α1 e1 s1 r1 w1 => tMA.use s1 (w1.ext e1).bind fun d2 h2 v2 H2 α2 e2 s2 r2 w2 => w2 _ H2 α2 (e1.trans e2) s2.heap (.cons (r1.ext e2) r2)
noncomputable def hG : List D -> Hh -> R D := fun ds h => if ds.length <= 1000000 then .ok (.tup ds) h else .bad
theorem aR.tup {K : PySem.W.Frag} {α : List Addr} {H : Hp} {h : Hh} {ds : List D} {vs : List V} {Q : VK} {p : Addr} (w : aR K g α H Q (.tup ds) h) (r : aW K g α H h) (rd : av K g α H ds vs) (n : H p = none) : Q (.ref p) (upd H p (.tup vs)) :=
  w _ _ α (Ext.fresh n) (r.grow n) (.tup bj (rd.ext (Ext.fresh n)))
theorem WQ.gz {K : PySem.W.Frag} {α : List Addr} {H : Hp} {β : Type} {c : Prop} [Decidable c] {r : R β} {k : β -> Hh -> Prop} (w : WQ K g ε α H (if c then r else .bad) k) : c /\ WQ K g ε α H r k := by
  by_cases h : c
  · rw [if_pos h] at w; exact ⟨h, w⟩
  · rw [if_neg h] at w; exact w.elim
theorem iJ {n : Nat} (h : n <= 1000000) : n <= sizeLine := by rw [sizeLine_eq]; omega
theorem ky {x1} (ha : PA X es (tMA X.K g ε mr)) : PE X (.Tuple es x1 pos) (tM X.K g ε (ai hG mr)) :=
  PE.imp (CY ha) fun σ H Q ⟨α, env, h, s, w⟩ => tMA.use s w.bind fun d1 h1 v1 H1 α1 e1 s1 r1 w1 => by
    obtain ⟨hl, w2⟩ := WQ.gz w1
    exact ⟨iJ (by rw [<- r1.length]; exact hl), fun p hp => aR.tup (aR.ext e1 w2) s1.heap r1 hp⟩
theorem yq {f : List D -> Hh -> R D} {r : List V -> Hp -> VK -> Prop} {K : PySem.W.Frag} (im : rj K g ε f r) {σ : St} {H : Hp} {Q : VK} (t : tM K g ε (ai f mr) σ H Q) : tCB r (tMA K g ε mr) σ H Q := by
  obtain ⟨α, env, h, s, w⟩ := t
  exact tMA.use s w.bind fun d1 h1 v1 H1 α1 e1 s1 r1 w1 => im α1 H1 h1 d1 v1 Q s1.heap r1 (w1.post e1)
theorem aO {id : String} {x : Str} {p : Pos} {f : List D -> Hh -> R D} {r : List V -> Hp -> VK -> Prop} (hc : dj X (.builtin id) r) (im : rj X.K g ε f r) (hg : Gl X x) (hm : X.mg x = none) (hv : bootBuiltins x = some (.builtin id)) (ha : PA X (e :: es) (tMA X.K g ε mr)) (hn : x ≠ "__name__" := by decide) (hdb : (x == ("__debug__" : Str)) = false := by decide)
    (he : starEach (e :: es) X.env = (false, eval e X.env) :: starEach es X.env := by rfl) (hpl : (backTo pos (starEach es X.env)).any (·.1) = false := by rfl) : PE X (.Call (.Name x p) (e :: es) [] pos) (tM X.K g ε (ai f mr)) :=
  PE.imp (t_ hc hg hm hv ha hn hdb he hpl) fun _ _ _ t => yq im t
theorem fU {id : String} {x : Str} {p : Pos} {f : List D -> Hh -> R D} {r : List V -> Hp -> VK -> Prop} (hc : dj X (.type id) r) (im : rj X.K g ε f r) (hg : Gl X x) (hm : X.mg x = none) (hv : bootBuiltins x = some (.type id)) (ha : PA X (e :: es) (tMA X.K g ε mr)) (hn : x ≠ "__name__" := by decide) (hdb : (x == ("__debug__" : Str)) = false := by decide)
    (he : starEach (e :: es) X.env = (false, eval e X.env) :: starEach es X.env := by rfl) (hpl : (backTo pos (starEach es X.env)).any (·.1) = false := by rfl) : PE X (.Call (.Name x p) (e :: es) [] pos) (tM X.K g ε (ai f mr)) :=
  PE.imp (lY hc hg hm hv ha hn hdb he hpl) fun _ _ _ t => yq im t
end
noncomputable def bU : MS := fun env h => .ok (.nx env) h
noncomputable def A2 : MS := fun env h => .ok (.bk env) h
noncomputable def aG (a b : MS) : MS := fun env h => (a env h).bind fun fl h1 => match fl with
  | .nx e => b e h1
  | fl => .ok fl h1
noncomputable def fI (a : ME) : MS := fun env h => (a env h).bind fun _ h1 => .ok (.nx env) h1
noncomputable def bH (a : ME) : MS := fun env h => (a env h).bind fun d h1 => .ok (.rt d) h1
noncomputable def dQ (c : MT) (a b : MS) : MS := fun env h => (c env h).bind fun x h1 => if x = true then a env h1 else b env h1
noncomputable def bB (i : Nat) (a : ME) : MS := fun env h => (a env h).bind fun d h1 => .ok (.nx (env.set i (some d))) h1
noncomputable def wx (i : Nat) (f : D -> D -> Hh -> R D) (a : ME) : MS := fun env h => (ag i env h).bind fun x h0 => (a env h0).bind fun y h1 => (f x y h1).bind fun z h2 => .ok (.nx (env.set i (some z))) h2
noncomputable def qP (f : D -> D -> D -> Hh -> R Unit) (o i v : ME) : MS := fun env h => (v env h).bind fun x h1 => (o env h1).bind fun y h2 => (i env h2).bind fun z h3 => (f y z x h3).bind fun _ h4 => .ok (.nx env) h4
noncomputable def Ag : MS := fun _ _ => .bad
section
variable {X : Cx} {g : GG} {ε : EE} {e : Expr} {me : ME} {ms mu : MS} {mt : MT} {st : Stmt} {rest : List Stmt} {pos : Pos}
theorem dX.nx {K : PySem.W.Frag} {α α' : List Addr} {H H' : Hp} {env : En} {σ : St} {h' : Hh} {E : Ends} (s : dX K g α' H' env σ h') (e : Ext K α H α' H') (w : cU K g α H E (.nx env) h') : E.nx σ H' := w H' α' e s.heap σ s.vs
theorem bY : PSs X [] (tMS X.K g ε bU) := PSs.imp AM fun E σ H ⟨α, env, h, s, w⟩ => s.nx Ext.refl w
theorem DU : PS X (.Break pos) (tMS X.K g ε A2) := PS.imp x_ fun E σ H ⟨α, env, h, s, w⟩ => (show cU X.K g α H E (.bk env) h from w) H α Ext.refl s.heap σ s.vs
theorem tMS.use {K : PySem.W.Frag} {α : List Addr} {H : Hp} {env : En} {σ : St} {h : Hh} {m : MS} {E : Ends} {k : Fl -> Hh -> Prop} (s : dX K g α H env σ h) (w : WQ K g ε α H (m env h) k)
    (q : ∀ fl h' H' α', Ext K α H α' H' -> aW K g α' H' h' -> k fl h' -> match fl with
      | .nx e => ∀ σ', dX K g α' H' e σ' h' -> E.nx σ' H'
      | .bk e => ∀ σ', dX K g α' H' e σ' h' -> E.bk σ' H'
      | .ct e => ∀ σ', dX K g α' H' e σ' h' -> E.ct σ' H'
      | .rt d => ∀ v, aH K g α' H' d v -> E.rt v H') : tMS K g ε m E σ H :=
  ⟨α, env, h, s, w.mono fun fl h' _ kk H' α' e r => by
    have := q fl h' H' α' e r kk
    cases fl with
    | nx e => exact fun σ' v => this σ' ⟨r, v⟩
    | bk e => exact fun σ' v => this σ' ⟨r, v⟩
    | ct e => exact fun σ' v => this σ' ⟨r, v⟩
    | rt d => exact this⟩
theorem au (h1 : PS X st (tMS X.K g ε ms)) (h2 : PSs X rest (tMS X.K g ε mu)) : PSs X (st :: rest) (tMS X.K g ε (aG ms mu)) :=
  PSs.imp (xo h1 h2) fun E σ H ⟨α, env, h, s, w⟩ => tMS.use s w.bind fun fl h' H' α' e r kk => by
    cases fl with
    | nx env' => exact fun σ' s' => ⟨α', env', h', s', WQ.vm e kk⟩
    | bk env' => exact fun σ' s' => (show cU X.K g α H E (.bk env') h' from kk) H' α' e r σ' s'.vs
    | ct env' => exact fun σ' s' => (show cU X.K g α H E (.ct env') h' from kk) H' α' e r σ' s'.vs
    | rt d => exact fun v rv => (show cU X.K g α H E (.rt d) h' from kk) H' α' e r v rv
theorem az (h1 : PS X st (tMS X.K g ε ms)) : PSs X [st] (tMS X.K g ε ms) := z0 h1
theorem e9 (he : PE X e (tM X.K g ε me)) (hs : swapsWith e none pos.line X.env = pure false := by rfl) : PS X (.Expr e pos) (tMS X.K g ε (fI me)) :=
  PS.imp (zM he hs) fun E σ H ⟨α, env, h, s, w⟩ => tM.use s w.bind fun d1 h1 v1 H1 α1 e1 s1 r1 w1 => s1.nx e1 w1
theorem bC (he : PE X e (tM X.K g ε me)) : PS X (.Return (some e) pos) (tMS X.K g ε (bH me)) :=
  PS.imp (Co he) fun E σ H ⟨α, env, h, s, w⟩ => tM.use s w.bind fun d1 h1 v1 H1 α1 e1 s1 r1 w1 => (show cU X.K g α H E (.rt d1) h1 from w1) H1 α1 e1 s1.heap v1 r1
theorem iI {c : Expr} {A B : List Stmt} (hc : PT X c (tMT X.K g ε mt)) (ha : PSs X A (tMS X.K g ε ms)) (hb : PSs X B (tMS X.K g ε mu)) : PS X (.If c A B pos) (tMS X.K g ε (dQ mt ms mu)) :=
  PS.imp (Ea hc ha hb) fun E σ H ⟨α, env, h, s, w⟩ => tMT.use s w.bind fun d1 h1 H1 α1 e1 s1 w1 => by
    cases d1 with
    | true => rw [if_pos rfl] at w1 ⊢; exact ⟨α1, env, h1, s1, WQ.vm e1 w1⟩
    | false => rw [if_neg Bool.false_ne_true] at w1 ⊢; exact ⟨α1, env, h1, s1, WQ.vm e1 w1⟩
theorem cR {i : Nat} {x : Str} {pos' : Pos} (hN : X.N.Nodup) (hi : X.N[i]? = some x) (hx : Loc X.env.scope x) (he : PE X e (tM X.K g ε me)) (hs : swapsWith e (some (.Name x pos')) pos.line X.env = pure false := by rfl) (hf : X.fn x = true \/ X.env.scope.names.lookup x = some .local := by first | exact .inl rfl | exact .inr rfl | assumption) :
    PS X (.Assign [.Name x pos'] e pos) (tMS X.K g ε (bB i me)) :=
  PS.imp (C7 hN hi hx he hs hf) fun E σ H ⟨α, env, h, s, w⟩ => tM.use s w.bind fun d1 h1 v1 H1 α1 e1 s1 r1 w1 => (show cU X.K g α H E (.nx (env.set i (some d1))) h1 from w1) H1 α1 e1 s1.heap _ (s1.vs.set r1)
theorem BB {i : Nat} {x : Str} {op : Operator} {ti : TIp} {f : D -> D -> Hh -> R D} {pos' : Pos} (hN : X.N.Nodup) (hi : X.N[i]? = some x) (hx : Loc X.env.scope x) (he : PE X e (tM X.K g ε me)) (ho : PIp X op ti) (im : eD X.K g ε f ti) (hf : X.fn x = true \/ X.env.scope.names.lookup x = some .local := by first | exact .inl rfl | exact .inr rfl | assumption) :
    PS X (.AugAssign (.Name x pos') op e pos) (tMS X.K g ε (wx i f me)) :=
  PS.imp (CZ hN hi hx he ho hf) fun E σ H ⟨α, env, h, s, w⟩ => by
    have w0 := w.bind
    unfold ag at w0
    cases ei : env[i]? with
    | none => rw [ei] at w0; exact w0.elim
    | some d =>
      cases d with
      | none => rw [ei] at w0; exact w0.elim
      | some d =>
        rw [ei] at w0
        have w1 : WQ X.K g ε α H ((me env h).bind _) _ := w0
        obtain ⟨v, hv, rd⟩ := s.vs.vars i d ei
        refine ⟨v, hv, tM.use s w1.bind fun d1 h1 v1 H1 α1 e1 s1 r1 w2 => ?_⟩
        refine im α1 H1 h1 d d1 v v1 _ s1.heap (rd.ext e1) r1 ((w2.ext e1).bind.mono fun z h2 _ w3 v3 H3 α3 e3 hr3 r3 => ?_)
        exact (show cU X.K g α H E (.nx _) h2 from w3) H3 α3 (e1.trans e3) hr3 _ ((s1.vs.ext e3).set r3)
noncomputable def Eb (K : PySem.W.Frag) (g : GG) (ε : EE) (f : D -> D -> D -> Hh -> R Unit) (t : uH) : Prop :=
  ∀ (α : List Addr) (H : Hp) (h : Hh) (o i v : D) (x y z : V) (Q : Hp -> Prop), aW K g α H h -> aH K g α H o x -> aH K g α H i y -> aH K g α H v z -> WQ K g ε α H (f o i v h) (fun _ h' => ∀ H' α', Ext K α H α' H' -> aW K g α' H' h' -> Q H') -> t x y z H Q
theorem vA {o i : Expr} {mo mi : ME} {t : uH} {f : D -> D -> D -> Hh -> R Unit} {p : Pos} (he : PE X e (tM X.K g ε me)) (ho : PE X o (tM X.K g ε mo)) (hi : PE X i (tM X.K g ε mi)) (hp : A7 X t) (im : Eb X.K g ε f t)
    (ha : ∀ v, assign (.Subscript o i p) X.env v = (do
      let ov ← holding [v] (eval o X.env)
      let iv ← holding [v, ov] (eval i X.env)
      standAt p
      holding [v, ov, iv] (setItem ov iv v)
      release [v, ov, iv] []) := by intro _; rfl)
    (hs : swapsWithSole [.Subscript o i p] e pos.line X.env = pure false := by rfl) (hw : swappedStores [.Subscript o i p] e X.env = pure none := by rfl)
    (h1 : (assignEach [.Subscript o i p] X.env).map (·.2) = [assign (.Subscript o i p) X.env] := by rfl) : PS X (.Assign [.Subscript o i p] e pos) (tMS X.K g ε (qP f mo mi me)) :=
  PS.imp (xH he (Ck ho hi hp ha) hs hw h1) fun E σ H ⟨α, env, h, s, w⟩ => tM.use s w.bind fun d1 h1 v1 H1 α1 e1 s1 r1 w1 => tM.use s1 (w1.ext e1).bind fun d2 h2 v2 H2 α2 e2 s2 r2 w2 => tM.use s2 (w2.ext e2).bind fun d3 h3 v3 H3 α3 e3 s3 r3 w3 => by
    refine im α3 H3 h3 d2 d3 d1 v2 v3 v1 _ s3.heap (r2.ext e3) r3 ((r1.ext e2).ext e3) ((w3.ext e3).bind.mono fun _ h4 _ w4 H4 α4 e4 hr4 => ?_)
    exact (show cU X.K g α H E (.nx env) h4 from w4) H4 α4 (e1.trans (e2.trans (e3.trans e4))) hr4 _ (s3.vs.ext e4)
end
theorem vO {X : Cx} {pins : List (Addr × Obj)} {σ : St} {H : Hp} {s : Shared} {p : Addr} {u : HO} (I : Inv X pins σ H s) (h : H p = some u) (mu : Mut (some u)) : ∃ o, Inv X pins σ (upd H p (.frz o u)) s := by
  obtain ⟨o, ho⟩ : ∃ o, s.heap.get? p = some o := by
    have hl := (I.hok p _ h).lt
    cases e : s.heap.get? p with
    | some o => exact ⟨o, rfl⟩
    | none => 
      have q := I.hok p _ h
      cases u with
      | lst xs => obtain ⟨_, _, _, _, e'⟩ := q; rw [e] at e'; cases e'
      | dK kvs => obtain ⟨_, _, _, _, o, _, _, e', _⟩ := q; rw [e] at e'; cases e'
      | dT kvs => obtain ⟨_, _, _, _, o, _, _, e', _⟩ := q; rw [e] at e'; cases e'
      | set S n => obtain ⟨o, _, _, _, e', _⟩ := q; rw [e] at e'; cases e'
      | ins C dx fs => obtain ⟨_, _, _, e', _⟩ := q; rw [e] at e'; cases e'
      | ext φ => obtain ⟨_, ⟨_, e'⟩, _⟩ := q; rw [e] at e'; cases e'
      | _ => exact absurd mu (fun z => z)
  have nt : ∀ b xs, H b = some (.tup xs) -> b ≠ p := fun b xs e z => by subst z; rw [h] at e; cases e; exact mu
  have nf : ∀ b o u, H b = some (.frz o u) -> b ≠ p := fun b o u e z => by subst z; rw [h] at e; cases e; exact mu
  have nb : ∀ b ps, H b = some (.tbl ps) -> b ≠ p := fun b ps e z => by subst z; rw [h] at e; cases e; exact mu
  have no : ∀ b y, H b = some (.own y) -> b ≠ p := fun b ps e z => by subst z; rw [h] at e; cases e; exact mu
  have hok : HOk X.prog X.w (upd H p (.frz o u)) s.heap := fun b v q => by
    by_cases hb : b = p
    · subst hb
      rw [bj] at q; cases q
      exact ⟨ho, (I.hok b _ h).lC (fun _ _ _ z => z) (fun c z => by rw [aJ (no c _ z)]; exact z) fun c xs z => by rw [aJ (nt c xs z)]; exact z⟩
    · rw [aJ hb] at q
      exact (I.hok b v q).lC (fun _ _ _ z => z) (fun c z => by rw [aJ (no c _ z)]; exact z) fun c xs z => by rw [aJ (nt c xs z)]; exact z
  refine ⟨o, ?_⟩
  have np : ∀ b, H b = none -> b ≠ p := fun b e z => by subst z; rw [h] at e; cases e
  have := I.un (H' := upd H p (.frz o u)) (h' := s.heap) (t' := s.toks) ⟨fun b o q _ _ _ => q, fun b o q _ _ _ => ⟨o.slots, q⟩, fun b v q n _ => (by rw [aJ (np b n)]; exact n), fun b o q _ => ⟨o, q⟩, fun b xs q => (by rw [aJ (nt b xs q)]; exact q), fun b o v q => (by rw [aJ (nf b o v q)]; exact q), fun b ps q => ⟨#[], by rw [aJ (nb b ps q), q]; simp⟩⟩ hok
  exact this
noncomputable def jZ (Q : VK) : VK := fun v H => Q v H \/ ∃ p u, v = .ref p /\ H p = some u /\ Mut (some u) /\ ∀ o, Q v (upd H p (.frz o u))
theorem EP.frz {X : Cx} {pins : List (Addr × Obj)} {σ : St} {Q : VK} {u : Value} {s' : Shared} (h : EP X pins σ (jZ Q) u s') : EP X pins σ Q u s' := by
  obtain ⟨v, H', I, r, q | ⟨p, u, rfl, e, m, q⟩⟩ := h
  · exact ⟨v, H', I, r, q⟩
  · obtain ⟨o, I'⟩ := vO I e m
    exact ⟨_, _, I', r, q o⟩
theorem PE.frz {X : Cx} {e : Expr} {t : TE} (h : PE X e t) : PE X e fun σ H Q => t σ H (jZ Q) := fun pins s σ H Q I w => thn (h pins s σ H _ I w) fun _ _ z => EP.frz z
theorem OpR.frz {X : Cx} {f : Value -> Value -> Sem Value} {r : R2} (h : OpR X f r) : OpR X f fun x y H Q => r x y H (jZ Q) := fun pins s σ H x y v u Q I rx ry q => thn (h pins s σ H x y v u _ I rx ry q) fun _ _ z => EP.frz z
noncomputable def DS (D : Ends) : Ends := { D with nx := fun σ H => D.nx σ H \/ ∃ p u, H p = some u /\ Mut (some u) /\ ∀ o, D.nx σ (upd H p (.frz o u)) }
theorem PS.frz {X : Cx} {st : Stmt} {t : TS} (h : PS X st t) : PS X st fun E σ H => t (DS E) σ H := fun pins s σ H E I w => thn (h pins s σ H _ I w) fun fl s' z => by
  cases fl with
  | next =>
    obtain ⟨σ', H', I, q | ⟨p, u, e, m, q⟩⟩ := z
    · exact ⟨σ', H', I, q⟩
    · obtain ⟨o, I'⟩ := vO I e m
      exact ⟨σ', _, I', q o⟩
  | brk => exact z
  | cont => exact z
  | ret u => exact z
theorem Bf {E : Ends} {σ : St} {i : Nat} {v : V} {H1 : Hp} (z : jZ (fun v H1 => E.nx (σ.set i (some v)) H1) v H1) : (DS E).nx (σ.set i (some v)) H1 := by
  rcases z with z | ⟨p, u, _, e, m, q⟩
  · exact .inl z
  · exact .inr ⟨p, u, e, m, q⟩
noncomputable abbrev NL := List D -> Hh -> R D
noncomputable def tZ : NL := fun ys h2 => .ok (.ref h2.length) (h2 ++ [O.lst ys])
noncomputable def bh : NL := fun ys h2 => .ok (.frl ys) h2
class jC (nl : NL) : Prop where
  at' : ∀ {K : PySem.W.Frag} {g : GG} {ε : EE} {α1 α2 : List Addr} {H1 H2 : Hp} {h : Hh} {as : List D} {ys : List V} {acc : Addr} {Q : D -> Hh -> Prop} {R : VK}, WQ K g ε α1 H1 (nl as h) Q -> (∀ d h', Q d h' -> aR K g α1 H1 R d h') -> Ext K α1 H1 α2 H2 -> aW K g α2 H2 h -> av K g α2 H2 as ys -> H2 acc = some (.lst ys) -> acc ∉ α2 -> H1 acc = none -> jZ R (.ref acc) H2
instance : jC tZ where
  at' := fun {K g ε α1 α2 H1 H2 h as ys acc Q R} w hq x2 hr2 ra ha hna hacc => by
    have x3 : Ext K α1 H1 (α2 ++ [acc]) H2 := ⟨x2.toEx0.trans (Ex0.refl.more _), x2.kept, fun p z n => by
      rcases List.mem_append.mp z with z | z
      · exact x2.new p z n
      · rw [List.mem_singleton.mp z]; exact hacc⟩
    refine .inl (hq _ _ w _ H2 (α2 ++ [acc]) x3 (hr2.adopt hna ⟨ys, ha, ra.ex0 (Ex0.refl.more _)⟩) (.ref ?_))
    rw [<- hr2.len, List.getElem?_append_right (Nat.le_refl _)]; simp
instance : jC bh where
  at' := fun {K g ε α1 α2 H1 H2 h as ys acc Q R} w hq x2 hr2 ra ha hna hacc => by
    refine .inr ⟨acc, _, rfl, ha, trivial, fun o => ?_⟩
    have soft : yc H2 acc := .inr ⟨_, ha, fun _ z => (nomatch z), fun _ _ z => (nomatch z), fun _ z => nomatch z⟩
    have x6 : Ex0 K α2 H2 α2 (upd H2 acc (.frz o (.lst ys))) := Ex0.upd soft
    refine hq _ _ w _ _ α2 ⟨x2.toEx0.trans x6, fun p u z n nt => ?_, x2.new⟩ (hr2.off soft hna) (.frl ⟨o, bj⟩ (ra.ex0 x6))
    rw [aJ (bw z hacc)]; exact x2.kept p u z n nt
theorem NL.post {nl : NL} [jC nl] {K : PySem.W.Frag} {g : GG} {ε : EE} {α : List Addr} {H : Hp} {h : Hh} {ds : List D} {vs : List V} {Q : VK} {p : Addr} (w : WQ K g ε α H (nl ds h) (aR K g α H Q)) (r : aW K g α H h) (rd : av K g α H ds vs) (n : H p = none) : jZ Q (.ref p) (upd H p (.lst vs)) :=
  jC.at' w (fun _ _ z => z) (Ext.fresh n) (r.grow n) (rd.ext (Ext.fresh n)) bj (r.free n) n
noncomputable def lP (nl : NL) : List D -> Hh -> R D := fun ds h => if ds.length <= 1000000 then nl ds h else .bad
theorem lu {X : Cx} {g : GG} {ε : EE} {es : List Expr} {mr : MA} {pos : Pos} {nl : NL} [jC nl] (ha : PA X es (tMA X.K g ε mr)) : PE X (.List es pos) (tM X.K g ε (ai (lP nl) mr)) :=
  PE.imp (PE.frz (Cn ha)) fun σ H Q ⟨α, env, h, s, w⟩ => tMA.use s w.bind fun d1 h1 v1 H1 α1 e1 s1 r1 w1 => by
    obtain ⟨hl, w2⟩ := WQ.gz w1
    exact ⟨iJ (by rw [<- r1.length]; exact hl), fun p hp => NL.post (w2.post e1) s1.heap r1 hp⟩
noncomputable def aF (h : Hh) (n : Nat) : Option (List D) := match h[n]? with
  | some (.lst ds) => some ds
  | _ => none
inductive Src where
  | snap (ds : List D)
  | live (n : Nat)
  | liveE (n : Nat)
noncomputable abbrev MI := En -> Hh -> R Src
noncomputable abbrev Rdr := Hh -> Nat -> Option (Option D)
noncomputable def Src.rdr : Src -> Rdr
  | .snap ds => fun _ i => some ds[i]?
  | .live n => fun h i => (aF h n).map fun ds => ds[i]?
  | .liveE n => fun h i => (aF h n).map fun ds => (ds[i]?).map fun d => D.tup [.int i, d]
noncomputable def Src.fuel (s : Src) (h : Hh) : Nat := match s with
  | .snap ds => ds.length
  | .live n => ((aF h n).getD []).length
  | .liveE n => ((aF h n).getD []).length
noncomputable def Reads (K : PySem.W.Frag) (g : GG) (J : It) (rd : Rdr) (α₀ : List Addr) (aU : Hp) : Prop :=
  ∀ (α : List Addr) (H : Hp) (h : Hh), Ext K α₀ aU α H -> aW K g α H h -> ∀ i, match rd h i with
    | none => True
    | some none => J.stop i H
    | some (some d) => J.go i H /\ ∀ x H', J.yld i H x H' -> ∃ α', Ext K α H α' H' /\ aW K g α' H' h /\ aH K g α' H' d x
noncomputable def tMI (K : PySem.W.Frag) (g : GG) (ε : EE) (m : MI) : TI := fun σ H T => ∃ α env h, dX K g α H env σ h /\ WQ K g ε α H (m env h) fun sr h' => ∀ J H' α', Ext K α H α' H' -> aW K g α' H' h' -> Reads K g J sr.rdr α' H' -> T J H'
theorem PI.imp {X : Cx} {tg e : Expr} {t t' : TI} (h : PI X tg e t) (i : ∀ σ H Q, t' σ H Q -> t σ H Q) : PI X tg e t' := fun pins s σ H Q I w => h pins s σ H Q I (i σ H Q w)
noncomputable def lA (rd : Rdr) (tg : D -> En -> Hh -> R En) (body : MS) : Nat -> Nat -> En -> Hh -> R Fl
  | k, i, env, h => match rd h i with
    | none => .bad
    | some none => .ok (.nx env) h
    | some (some d) => match k with
      | 0 => .bad
      | k + 1 => (tg d env h).bind fun e1 h1 => (body e1 h1).bind fun fl h2 => match fl with
        | .nx e => lA rd tg body k (i + 1) e h2
        | .ct e => lA rd tg body k (i + 1) e h2
        | .bk e => .ok (.nx e) h2
        | .rt d => .ok (.rt d) h2
noncomputable def ff (tg : D -> En -> Hh -> R En) (body : MS) : List D -> En -> Hh -> R Fl
  | [], env, h => .ok (.nx env) h
  | d :: ds, env, h => (tg d env h).bind fun e1 h1 => (body e1 h1).bind fun fl h2 => match fl with
    | .nx e => ff tg body ds e h2
    | .ct e => ff tg body ds e h2
    | .bk e => .ok (.nx e) h2
    | .rt d => .ok (.rt d) h2
theorem zX (tg : D -> En -> Hh -> R En) (body : MS) (all : List D) : ∀ (ds : List D) (i : Nat) (env : En) (h : Hh), all.drop i = ds -> lA (Src.snap all).rdr tg body ds.length i env h = ff tg body ds env h := by
  intro ds
  induction ds with
  | nil =>
    intro i env h e
    have : all[i]? = none := by
      have := congrArg List.length e
      simp at this
      exact List.getElem?_eq_none (by omega)
    unfold lA ff Src.rdr
    simp [this]
  | cons d ds ih =>
    intro i env h e
    have h0 : all[i]? = some d := by
      have := congrArg (fun l => l[0]?) e
      simpa using this
    have h1 : all.drop (i + 1) = ds := by
      have := congrArg List.tail e
      simpa using this
    unfold lA ff
    have : (Src.snap all).rdr h i = some (some d) := by unfold Src.rdr; simp [h0]
    rw [this]
    show ((tg d env h).bind _) = _
    congr 1
    funext e1 h2
    congr 1
    funext fl h3
    cases fl with
    | nx e => exact ih (i + 1) e h3 h1
    | ct e => exact ih (i + 1) e h3 h1
    | bk e => rfl
    | rt d => rfl
noncomputable def fY (mi : MI) (tg : D -> En -> Hh -> R En) (body : MS) : MS := fun env h => (mi env h).bind fun sr h1 => match sr with
  | .snap ds => ff tg body ds env h1
  | .live n => lA (Src.live n).rdr tg body ((aF h1 n).getD []).length 0 env h1
  | .liveE n => lA (Src.liveE n).rdr tg body ((aF h1 n).getD []).length 0 env h1
theorem AK {mi : MI} {tg : D -> En -> Hh -> R En} {body : MS} {env : En} {h : Hh} : fY mi tg body env h = (mi env h).bind fun sr h1 => lA sr.rdr tg body (sr.fuel h1) 0 env h1 := by
  unfold fY
  congr 1
  funext sr h1
  cases sr with
  | snap ds => exact (zX tg body ds ds 0 env h1 rfl).symm
  | live n => rfl
  | liveE n => rfl
noncomputable def gN (i : Nat) : D -> En -> Hh -> R En := fun d env h => .ok (env.set i (some d)) h
noncomputable def gT2 (i j : Nat) : D -> En -> Hh -> R En := fun d env h => match d with
  | .tup [x, y] => .ok ((env.set i (some x)).set j (some y)) h
  | _ => .bad
noncomputable def B3 (K : PySem.W.Frag) (g : GG) (ε : EE) (tg : D -> En -> Hh -> R En) (t : TG) : Prop :=
  ∀ (α : List Addr) (H : Hp) (h : Hh) (env : En) (σ : St) (d : D) (x : V) (Q : St -> Hp -> Prop), dX K g α H env σ h -> aH K g α H d x →
    WQ K g ε α H (tg d env h) (fun e1 h1 => ∀ σ' H' α', Ext K α H α' H' -> dX K g α' H' e1 σ' h1 -> Q σ' H') -> t x σ H Q
theorem gC {K : PySem.W.Frag} {g : GG} {ε : EE} {i : Nat} : B3 K g ε (gN i) (gq i) := fun α H h env σ d x Q s r w => w _ H α Ext.refl ⟨s.heap, s.vs.set r⟩
theorem uy {K : PySem.W.Frag} {g : GG} {ε : EE} {i j : Nat} : B3 K g ε (gT2 i j) (yG K 2 (kA (gq i) (kA (gq j) zt))) := fun α H h env σ d x Q s r w => by
  unfold gT2 at w
  cases r with
  | tup hq rs =>
    cases rs with
    | nil => exact w.elim
    | cons ra rr =>
      cases rr with
      | nil => exact w.elim
      | cons rb rr =>
        cases rr with
        | nil => exact ⟨_, _, rfl, SqT.of hq, rfl, _, _, rfl, _, _, rfl, rfl, w _ H α Ext.refl ⟨s.heap, (s.vs.set ra).set rb⟩⟩
        | cons _ _ => exact w.elim
  | _ => exact w.elim
section
variable {X : Cx} {g : GG} {ε : EE}
theorem jL {tg iter : Expr} {body : List Stmt} {mi : MI} {t : TG} {fg : D -> En -> Hh -> R En} {mb : MS} {pos : Pos} (hp : PassesOwn (model X.prog X.w) X.A X.env X.xe) (hc : X.calm = true) (hi : PI X tg iter (tMI X.K g ε mi)) (hg : PG X tg t) (ig : B3 X.K g ε fg t) (hb : PSs X body (tMS X.K g ε mb))
    (hs : ∀ x, foldedSetIterable iter X.env x = pure x := by intro _; rfl) : PS X (.For tg iter body [] pos) (tMS X.K g ε (fY mi fg mb)) := by
  refine PS.imp (BW hp hc hi hg hb hs) fun E σ H ⟨α, env, h, s, w⟩ => ?_
  rw [AK] at w
  refine ⟨α, env, h, s, w.bind.mono fun sr h1 _ w1 J H1 α1 e1 hr1 rd => ?_⟩
  refine ⟨fun i m σ H => ∃ α env h, Ext X.K α1 H1 α H /\ dX X.K g α H env σ h /\ WQ X.K g ε α H (lA sr.rdr fg mb m i env h) (cU X.K g α H E), ⟨sr.fuel h1, α1, env, h1, Ext.refl, s.ext e1 hr1, w1.vm e1⟩, ?_⟩
  rintro i m σ2 H2 ⟨α2, env2, h2, x2, s2, w2⟩
  have q := rd α2 H2 h2 x2 s2.heap i
  unfold lA at w2
  cases e : sr.rdr h2 i with
  | none => rw [e] at w2; exact w2.elim
  | some od =>
    rw [e] at w2 q
    cases od with
    | none => exact .inl ⟨q, s2.nx Ext.refl w2⟩
    | some d =>
      cases m with
      | zero => exact w2.elim
      | succ m =>
        have w3 := WQ.bind (show WQ X.K g ε α2 H2 ((fg d env2 h2).bind _) _ from w2)
        refine .inr ⟨q.1, fun σ' H' => ∃ α env h, Ext X.K α1 H1 α H' /\ dX X.K g α H' env σ' h /\ WQ X.K g ε α H' (lA sr.rdr fg mb m (i + 1) env h) (cU X.K g α H' E), fun σ' H' z => ⟨m, Nat.lt_succ_self _, z⟩, fun x H3 y => ?_⟩
        obtain ⟨α3, x3, hr3, rx⟩ := q.2 x H3 y
        refine ig α3 H3 h2 env2 σ2 d x _ (s2.ext x3 hr3) rx ((w3.ext x3).mono fun e4 h4 _ w4 σ4 H4 α4 x4 s4 => ?_)
        refine tMS.use s4 ((w4.ext x3).ext x4).bind fun fl h5 H5 α5 x5 hr5 w5 => ?_
        have tr : Ext X.K α2 H2 α5 H5 := x3.trans (x4.trans x5)
        cases fl with
        | nx e => exact fun σ' s' => ⟨α5, e, h5, x2.trans tr, s', ((w5.ext x5)).mono fun _ _ _ p => p.ext tr⟩
        | ct e => exact fun σ' s' => ⟨α5, e, h5, x2.trans tr, s', ((w5.ext x5)).mono fun _ _ _ p => p.ext tr⟩
        | bk e => exact fun σ' s' => (show cU X.K g α2 H2 E (.nx e) h5 from w5) H5 α5 tr hr5 σ' s'.vs
        | rt d => exact fun v rv => (show cU X.K g α2 H2 E (.rt d) h5 from w5) H5 α5 tr hr5 v rv
theorem aW.lst {K : PySem.W.Frag} {α : List Addr} {H : Hp} {h : Hh} {n : Nat} {ds : List D} (r : aW K g α H h) (e : aF h n = some ds) {p : Addr} (hp : α[n]? = some p) : ∃ vs, H p = some (.lst vs) /\ av K g α H ds vs := by
  unfold aF at e
  cases o : h[n]? with
  | none => rw [o] at e; cases e
  | some o' =>
    rw [o] at e
    have q := r.here n p o' hp o
    cases o' with
    | lst ds' => cases e; obtain ⟨vs, a, b⟩ := q; exact ⟨vs, a, b⟩
    | set n => cases e
    | dic k => cases e
    | dit k => cases e
noncomputable def zw : D -> Hh -> R Src
  | .tup ds, h => .ok (.snap ds) h
  | .frl ds, h => .ok (.snap ds) h
  | .scr ds, h => .ok (.snap ds) h
  | .ref n, h => match aF h n with
    | some _ => .ok (.live n) h
    | none => .bad
  | _, _ => .bad
noncomputable def fH (a : ME) : MI := fun env h => (a env h).bind zw
noncomputable def Fi (K : PySem.W.Frag) (tl : TE) : TI := fun σ H R => tl σ H fun x H1 => ∃ a, x = .ref a /\ (((∃ xs, SqL K H1 a xs) /\ R (Itl K a) H1) \/ ((∃ xs, SqT K H1 a xs) /\ R (Itt K a) H1))
theorem Ci {tg l : Expr} {tl : TE} (hl : PE X l tl) : PI X tg l (Fi X.K tl) := by
  intro pins s σ H R I h
  refine thn (hl pins s σ H _ I h) fun v s1 ⟨x, H1, I1, r1, q1⟩ => ?_
  obtain ⟨a, e, q⟩ := q1
  subst e
  cases r1
  rcases q with ⟨⟨xs, hq⟩, q⟩ | ⟨⟨xs, hq⟩, q⟩
  · obtain ⟨its, rv, p, hz⟩ := I1.list hq
    refine wpAny_pyIter_list p.isList ?_
    refine ⟨s1.heap.objs.size, [s1.heap.objs.size], _, _, H1, rfl, I1.kept (t' := s1.toks) fun b o e => Heap.get?_push_of_some _ e, v7 a _, ⟨_, Heap.get?_push_size _ rfl, rfl, rfl⟩, fun b hb => ?_, q⟩
    have e : b = s1.heap.objs.size := by simpa using hb
    subst e
    exact I1.yB (Nat.le_refl _) (I1.hok.fresh (Nat.le_refl _))
  · obtain ⟨its, rv, p, hz⟩ := I1.tuple hq
    refine wpAny_pyIter_tuple (show s1.heap.IsTuple a its.toArray from p) ?_
    refine ⟨s1.heap.objs.size, [s1.heap.objs.size], _, _, H1, rfl, I1.kept (t' := s1.toks) fun b o e => Heap.get?_push_of_some _ e, uu a _, ⟨_, Heap.get?_push_size _ rfl, rfl, rfl⟩, fun b hb => ?_, q⟩
    have e : b = s1.heap.objs.size := by simpa using hb
    subst e
    exact I1.yB (Nat.le_refl _) (I1.hok.fresh (Nat.le_refl _))
theorem wN {K : PySem.W.Frag} {α : List Addr} {H : Hp} {a : Addr} {ds : List D} {vs : List V} (hq' : H a = some (.tup vs)) (rs : av K g α H ds vs) : Reads K g (Itt K a) (Src.snap ds).rdr α H := by
  intro α2 H2 h2 x2 hr i
  have hq2 : SqT K H2 a vs := SqT.of (x2.tup _ _ hq')
  have rs2 := rs.ext x2
  show match some ds[i]? with | none => True | some none => _ | some (some d) => _
  cases e : ds[i]? with
  | none =>
    have : ds.length <= i := List.getElem?_eq_none_iff.mp e
    exact ⟨vs, hq2, by rw [<- rs.length]; exact this⟩
  | some d =>
    obtain ⟨v, ev, rv⟩ := rs2.get e
    refine ⟨⟨vs, v, hq2, ev⟩, fun x H' y => ?_⟩
    obtain ⟨e1, e2⟩ := y
    subst e1
    have := e2 vs hq2
    rw [ev] at this
    cases this
    exact ⟨α2, Ext.refl, hr, rv⟩
theorem p7 {K : PySem.W.Frag} {α : List Addr} {H : Hp} {a : Addr} {ds : List D} {vs : List V} (hq : Fro K H a vs) (rs : av K g α H ds vs) : Reads K g (Itl K a) (Src.snap ds).rdr α H := by
  intro α2 H2 h2 x2 hr i
  have hq2 := x2.fro _ _ hq
  have rs2 := rs.ext x2
  show match some ds[i]? with | none => True | some none => _ | some (some d) => _
  cases e : ds[i]? with
  | none =>
    have : ds.length <= i := List.getElem?_eq_none_iff.mp e
    exact ⟨vs, hq2.sq, by rw [<- rs.length]; exact this⟩
  | some d =>
    obtain ⟨v, ev, rv⟩ := rs2.get e
    refine ⟨⟨vs, v, hq2.sq, ev⟩, fun x H' y => ?_⟩
    obtain ⟨e1, e2⟩ := y
    subst e1
    have := e2 vs hq2.sq
    rw [ev] at this
    cases this
    exact ⟨α2, Ext.refl, hr, rv⟩
theorem v8 {K : PySem.W.Frag} {α : List Addr} {H : Hp} {a : Addr} {n : Nat} (ha : α[n]? = some a) : Reads K g (Itl K a) (Src.live n).rdr α H := by
  intro α2 H2 h2 x2 hr i
  show match (aF h2 n).map fun ds => ds[i]? with | none => True | some none => _ | some (some d) => _
  cases e : aF h2 n with
  | none => trivial
  | some ds =>
    obtain ⟨vs, hq', rs⟩ := hr.lst e (x2.get ha)
    have hq : SqL K H2 a vs := SqL.of hq'
    show match some ds[i]? with | none => True | some none => _ | some (some d) => _
    cases ei : ds[i]? with
    | none =>
      have : ds.length <= i := List.getElem?_eq_none_iff.mp ei
      exact ⟨vs, hq, by rw [<- rs.length]; exact this⟩
    | some d =>
      obtain ⟨v, ev, rv⟩ := rs.get ei
      refine ⟨⟨vs, v, hq, ev⟩, fun x H' y => ?_⟩
      obtain ⟨e1, e2⟩ := y
      subst e1
      have := e2 vs hq
      rw [ev] at this
      cases this
      exact ⟨α2, Ext.refl, hr, rv⟩
theorem gU {tg e : Expr} {me : ME} (he : PE X e (tM X.K g ε me)) : PI X tg e (tMI X.K g ε (fH me)) :=
  PI.imp (Ci he) fun σ H T ⟨α, env, h, s, w⟩ => tM.use s w.bind fun d1 h1 v1 H1 α1 e1 s1 r1 w1 => by
    unfold zw at w1
    cases r1 with
    | tup hq rs => exact ⟨_, rfl, .inr ⟨⟨_, SqT.of hq⟩, w1 _ H1 α1 e1 s1.heap (wN hq rs)⟩⟩
    | frl hq rs => exact ⟨_, rfl, .inl ⟨⟨_, hq.sq⟩, w1 _ H1 α1 e1 s1.heap (p7 hq.fro rs)⟩⟩
    | scr hq rs => exact ⟨_, rfl, .inl ⟨⟨_, hq.sq⟩, w1 _ H1 α1 e1 s1.heap (p7 hq rs)⟩⟩
    | @ref n p hp =>
      cases el : aF h1 n with
      | none => simp only [el] at w1; exact w1.elim
      | some ds =>
        simp only [el] at w1
        obtain ⟨vs, hq, _⟩ := s1.heap.lst el hp
        exact ⟨p, rfl, .inl ⟨⟨_, SqL.of hq⟩, w1 _ H1 α1 e1 s1.heap (v8 hp)⟩⟩
    | _ => exact w1.elim
noncomputable def f6 (ds : List D) : List D := (List.range ds.length).map fun (i : Nat) => D.tup [.int i, ds.getD i .non]
noncomputable def tN : D -> Hh -> R Src
  | .tup ds, h => .ok (.snap (f6 ds)) h
  | .frl ds, h => .ok (.snap (f6 ds)) h
  | .ref n, h => match aF h n with
    | some _ => .ok (.liveE n) h
    | none => .bad
  | _, _ => .bad
noncomputable def lE (a : ME) : MI := fun env h => (a env h).bind tN
theorem pK {ds : List D} {i : Nat} : (f6 ds)[i]? = (ds[i]?).map fun d => D.tup [.int i, d] := by
  unfold f6
  rw [List.getElem?_map]
  by_cases hi : i < ds.length
  · have e : ds.getD i .non = ds[i] := by rw [List.getD_eq_getElem?_getD, List.getElem?_eq_getElem hi]; rfl
    rw [List.getElem?_range hi, List.getElem?_eq_getElem hi, Option.map_some, Option.map_some, e]
  · rw [List.getElem?_eq_none (by simpa using hi), List.getElem?_eq_none (by omega)]; rfl
theorem oW {K : PySem.W.Frag} {α : List Addr} {H : Hp} {h : Hh} {i : Nat} {d : D} {v : V} {p : Addr} (hr : aW K g α H h) (rv : aH K g α H d v) (hp : H p = none) :
    ∃ α', Ext K α H α' (upd H p (.tup [.int i, v])) /\ aW K g α' (upd H p (.tup [.int i, v])) h /\ aH K g α' (upd H p (.tup [.int i, v])) (.tup [.int i, d]) (.ref p) :=
  ⟨α, Ext.fresh hp, hr.grow hp, .tup bj (.cons (.int _) (.cons (rv.ext (Ext.fresh hp)) .nil))⟩
theorem sP {K : PySem.W.Frag} {α : List Addr} {H : Hp} {a : Addr} {ds : List D} {vs : List V} (hq' : H a = some (.tup vs)) (rs : av K g α H ds vs) : Reads K g (Iet K a) (Src.snap (f6 ds)).rdr α H := by
  intro α2 H2 h2 x2 hr i
  have hq2 : SqT K H2 a vs := SqT.of (x2.tup _ _ hq')
  have rs2 := rs.ext x2
  show match some (f6 ds)[i]? with | none => True | some none => _ | some (some d) => _
  rw [pK]
  cases e : ds[i]? with
  | none =>
    have : ds.length <= i := List.getElem?_eq_none_iff.mp e
    exact ⟨vs, hq2, by rw [<- rs.length]; exact this⟩
  | some d =>
    obtain ⟨v, ev, rv⟩ := rs2.get e
    refine ⟨⟨vs, v, hq2, ev⟩, fun x H' y => ?_⟩
    obtain ⟨p, v', e1, hp, e2, e3⟩ := y
    subst e1 e3
    have := e2 vs hq2
    rw [ev] at this
    cases this
    exact oW hr rv hp
theorem tD {K : PySem.W.Frag} {α : List Addr} {H : Hp} {a : Addr} {ds : List D} {vs : List V} (hq : Fro K H a vs) (rs : av K g α H ds vs) : Reads K g (Iel K a) (Src.snap (f6 ds)).rdr α H := by
  intro α2 H2 h2 x2 hr i
  have hq2 : SqL K H2 a vs := (x2.fro _ _ hq).sq
  have rs2 := rs.ext x2
  show match some (f6 ds)[i]? with | none => True | some none => _ | some (some d) => _
  rw [pK]
  cases e : ds[i]? with
  | none =>
    have : ds.length <= i := List.getElem?_eq_none_iff.mp e
    exact ⟨vs, hq2, by rw [<- rs.length]; exact this⟩
  | some d =>
    obtain ⟨v, ev, rv⟩ := rs2.get e
    refine ⟨⟨vs, v, hq2, ev⟩, fun x H' y => ?_⟩
    obtain ⟨p, v', e1, hp, e2, e3⟩ := y
    subst e1 e3
    have := e2 vs hq2
    rw [ev] at this
    cases this
    exact oW hr rv hp
theorem t7 {K : PySem.W.Frag} {α : List Addr} {H : Hp} {a : Addr} {n : Nat} (ha : α[n]? = some a) : Reads K g (Iel K a) (Src.liveE n).rdr α H := by
  intro α2 H2 h2 x2 hr i
  show match (aF h2 n).map fun ds => (ds[i]?).map fun d => D.tup [.int i, d] with | none => True | some none => _ | some (some d) => _
  cases e : aF h2 n with
  | none => trivial
  | some ds =>
    obtain ⟨vs, hq', rs⟩ := hr.lst e (x2.get ha)
    have hq : SqL K H2 a vs := SqL.of hq'
    show match some ((ds[i]?).map fun d => D.tup [.int i, d]) with | none => True | some none => _ | some (some d) => _
    cases ei : ds[i]? with
    | none =>
      have : ds.length <= i := List.getElem?_eq_none_iff.mp ei
      exact ⟨vs, hq, by rw [<- rs.length]; exact this⟩
    | some d =>
      obtain ⟨v, ev, rv⟩ := rs.get ei
      refine ⟨⟨vs, v, hq, ev⟩, fun x H' y => ?_⟩
      obtain ⟨p, v', e1, hp, e2, e3⟩ := y
      subst e1 e3
      have := e2 vs hq
      rw [ev] at this
      cases this
      exact oW hr rv hp
theorem vd {elts : List Expr} {kt : Nat} {tp p pos : Pos} {e : Expr} {me : ME} (hg : Gl X "enumerate") (hm : X.mg "enumerate" = none) (he : PE X e (tM X.K g ε me)) (hs : starEach [e] X.env = [(false, eval e X.env)] := by rfl) : PI X (.Tuple elts kt tp) (.Call (.Name "enumerate" p) [e] [] pos) (tMI X.K g ε (lE me)) :=
  PI.imp (AQ hg hm he hs) fun σ H T ⟨α, env, h, s, w⟩ => tM.use s w.bind fun d1 h1 v1 H1 α1 e1 s1 r1 w1 => by
    unfold tN at w1
    cases r1 with
    | tup hq rs => exact ⟨_, rfl, .inr ⟨⟨_, SqT.of hq⟩, w1 _ H1 α1 e1 s1.heap (sP hq rs)⟩⟩
    | frl hq rs => exact ⟨_, rfl, .inl ⟨⟨_, hq.sq⟩, w1 _ H1 α1 e1 s1.heap (tD hq.fro rs)⟩⟩
    | @ref n p hp =>
      cases el : aF h1 n with
      | none => simp only [el] at w1; exact w1.elim
      | some ds =>
        simp only [el] at w1
        obtain ⟨vs, hq, _⟩ := s1.heap.lst el hp
        exact ⟨p, rfl, .inl ⟨⟨_, SqL.of hq⟩, w1 _ H1 α1 e1 s1.heap (t7 hp)⟩⟩
    | _ => exact w1.elim
noncomputable def cA (lo : Int) (n : Nat) : List D := (List.range n).map fun (i : Nat) => D.int (lo + i)
noncomputable def jo : List D -> Hh -> R Src
  | [.int j], h => if j.natAbs <= 1000000 then .ok (.snap (cA 0 j.toNat)) h else .bad
  | _, _ => .bad
noncomputable def uZ : List D -> Hh -> R Src
  | [.int i, .int j], h => if i.natAbs <= 1000000 /\ j.natAbs <= 1000000 then .ok (.snap (cA i (j - i).toNat)) h else .bad
  | _, _ => .bad
noncomputable def iQ (f : List D -> Hh -> R Src) (a : MA) : MI := fun env h => (a env h).bind f
theorem pQ {K : PySem.W.Frag} {α : List Addr} {H : Hp} {lo : Int} {n : Nat} : Reads K g (Itr lo n) (Src.snap (cA lo n)).rdr α H := by
  intro α2 H2 h2 x2 hr i
  show match some (cA lo n)[i]? with | none => True | some none => _ | some (some d) => _
  unfold cA
  rw [List.getElem?_map]
  by_cases hi : i < n
  · rw [List.getElem?_range hi]
    refine ⟨hi, fun x H' y => ?_⟩
    obtain ⟨e1, e2⟩ := y
    subst e1 e2
    exact ⟨α2, Ext.refl, hr, .int _⟩
  · rw [List.getElem?_eq_none (by simpa using hi)]
    exact Nat.le_of_not_lt hi
theorem iA {tg a : Expr} {ma : MA} {p pos : Pos} (hg : Gl X "range") (hm : X.mg "range" = none) (ha : PA X [a] (tMA X.K g ε ma)) (hs : starEach [a] X.env = [(false, eval a X.env)] := by rfl) : PI X tg (.Call (.Name "range" p) [a] [] pos) (tMI X.K g ε (iQ jo ma)) :=
  PI.imp (xb hg hm ha hs) fun σ H T ⟨α, env, h, s, w⟩ => tMA.use s w.bind fun d1 h1 v1 H1 α1 e1 s1 r1 w1 => by
    unfold jo at w1
    cases r1 with
    | nil => exact w1.elim
    | cons ra rr =>
      cases rr with
      | cons _ _ => cases ra <;> exact w1.elim
      | nil =>
        cases ra with
        | int j =>
          obtain ⟨hj, w2⟩ := WQ.gz w1
          exact ⟨j, rfl, by omega, by omega, w2 _ H1 α1 e1 s1.heap pQ⟩
        | _ => exact w1.elim
theorem Ba {tg a b : Expr} {ma : MA} {p pos : Pos} (hg : Gl X "range") (hm : X.mg "range" = none) (ha : PA X [a, b] (tMA X.K g ε ma)) (hs : starEach [a, b] X.env = [(false, eval a X.env), (false, eval b X.env)] := by rfl) (hs2 : starEach [b] X.env = [(false, eval b X.env)] := by rfl) : PI X tg (.Call (.Name "range" p) [a, b] [] pos) (tMI X.K g ε (iQ uZ ma)) :=
  PI.imp (wW hg hm ha hs hs2) fun σ H T ⟨α, env, h, s, w⟩ => tMA.use s w.bind fun d1 h1 v1 H1 α1 e1 s1 r1 w1 => by
    unfold uZ at w1
    split at w1
    · cases r1 with
      | cons ra rr =>
        cases ra
        cases rr with
        | cons rb rr =>
          cases rb
          cases rr
          obtain ⟨hj, w2⟩ := WQ.gz w1
          exact ⟨_, _, rfl, ⟨by omega, by omega, by omega, by omega⟩, w2 _ H1 α1 e1 s1.heap pQ⟩
    · exact w1.elim
noncomputable def gT (c : MT) (b : MS) : Nat -> En -> Hh -> R Fl
  | 0, _, _ => .bad
  | k + 1, env, h => (c env h).bind fun x h1 => if x = true then (b env h1).bind fun fl h2 => match fl with
      | .nx e => gT c b k e h2
      | .ct e => gT c b k e h2
      | .bk e => .ok (.nx e) h2
      | .rt d => .ok (.rt d) h2
    else .ok (.nx env) h1
noncomputable def oB (fuel : Nat) (c : MT) (b : MS) : MS := fun env h => gT c b fuel env h
theorem AE {c : Expr} {body : List Stmt} {mc : MT} {mb : MS} {pos : Pos} (fuel : Nat) (hp : PassesOwn (model X.prog X.w) X.A X.env X.xe) (hc : PT X c (tMT X.K g ε mc)) (hb : PSs X body (tMS X.K g ε mb)) : PS X (.While c body [] pos) (tMS X.K g ε (oB fuel mc mb)) := by
  refine PS.imp (yz hp hc hb) fun E σ H ⟨α, env, h, s, w⟩ => ?_
  refine ⟨fun m σ H => ∃ α env h, dX X.K g α H env σ h /\ WQ X.K g ε α H (gT mc mb m env h) (cU X.K g α H E), ⟨fuel, α, env, h, s, w⟩, ?_⟩
  rintro m σ2 H2 ⟨α2, env2, h2, s2, w2⟩
  cases m with
  | zero => exact w2.elim
  | succ m =>
    refine tMT.use s2 (WQ.bind (show WQ X.K g ε α2 H2 ((mc env2 h2).bind _) _ from w2)) fun b h3 H3 α3 x3 s3 w3 => ?_
    cases b with
    | false => rw [if_neg Bool.false_ne_true] at w3 ⊢; exact s3.nx x3 w3
    | true =>
      rw [if_pos rfl] at w3 ⊢
      refine ⟨fun σ' H' => ∃ α env h, dX X.K g α H' env σ' h /\ WQ X.K g ε α H' (gT mc mb m env h) (cU X.K g α H' E), fun σ' H' z => ⟨m, Nat.lt_succ_self _, z⟩, ?_⟩
      refine tMS.use s3 (w3.ext x3).bind fun fl h5 H5 α5 x5 hr5 w5 => ?_
      have tr : Ext X.K α2 H2 α5 H5 := x3.trans x5
      cases fl with
      | nx e => exact fun σ' s' => ⟨α5, e, h5, s', (w5.ext x5).mono fun _ _ _ p => p.ext tr⟩
      | ct e => exact fun σ' s' => ⟨α5, e, h5, s', (w5.ext x5).mono fun _ _ _ p => p.ext tr⟩
      | bk e => exact fun σ' s' => (show cU X.K g α2 H2 E (.nx e) h5 from w5) H5 α5 tr hr5 σ' s'.vs
      | rt d => exact fun v rv => (show cU X.K g α2 H2 E (.rt d) h5 from w5) H5 α5 tr hr5 v rv
end
noncomputable abbrev E00 : EE := fun _ _ _ => False
noncomputable abbrev MF := List D -> Hh -> R D
noncomputable def c_ (n : Nat) (m : MS) : MF := fun ds h => (m (ds.map some ++ List.replicate (n - ds.length) none) h).bind fun fl h1 => match fl with
  | .rt d => .ok d h1
  | .nx _ => .ok .non h1
  | _ => .bad
noncomputable def spG (K : PySem.W.Frag) (g : GG) (ε : XK -> EE) (np : Nat) (m : MF) : Sp := fun vs H Q E => vs.length = np /\ ∃ α ds h, av K g α H ds vs /\ aW K g α H h /\ WQ K g (ε E) α H (m ds h) (aR K g α H Q)
noncomputable abbrev spM (K : PySem.W.Frag) (g : GG) (np : Nat) (m : MF) : Sp := spG K g (fun _ => E00) np m
theorem qt {K : PySem.W.Frag} {g : GG} {α : List Addr} {H : Hp} {N : List Str} {ds : List D} {vs : List V} (r : av K g α H ds vs) : jz K g α H (ds.map some ++ List.replicate (N.length - ds.length) none) (start N vs) := by
  have hl := r.length
  refine ⟨by simp [start, hl], fun i d h => ?_⟩
  by_cases hi : i < ds.length
  · rw [List.getElem?_append_left (by simpa using hi), List.getElem?_map] at h
    cases e : ds[i]? with
    | none => rw [e] at h; cases h
    | some d' =>
      rw [e] at h
      cases h
      obtain ⟨v, ev, rv⟩ := r.get e
      refine ⟨v, ?_, rv⟩
      unfold start
      rw [List.getElem?_append_left (by simp; omega), List.getElem?_map, ev]
      rfl
  · rw [List.getElem?_append_right (by simpa using hi), List.getElem?_replicate] at h
    split at h <;> cases h
section
variable {P : Program} {w : World} {K : PySem.W.Frag} {mg : Str -> Option Value} {base : Heap} {g : GG}
theorem eL {x qual : Str} {st : Stmt} {f : Addr} {fd : FuncData} {N ps : List Str} {k : Nat} {mb : MS} (F : Fun K x qual st f fd) (S : aL N ps (ao st))
    (hb : ∀ (cdv : Value) (A : Around) (outer : List Env) (s : Shared) (H : Hp) (E : XK), fR k (A.deeper (envOfC qual (ao st) s.heap.objs.size f cdv)) →
      PSs (kj CX0 P w K mg base N qual (ao st) f cdv A outer s H E).nox (eB st) (tMS K g E00 mb)) : eS P w K mg base CX0 (k + 1) f fd ps (spM K g ps.length (c_ N.length mb)) := by
  refine F.ok S (fun vs H Q E h => h.1) fun cdv A outer s H vs Q E hr h => ⟨_, hb cdv A outer s H E hr, ?_⟩
  obtain ⟨hl, α, ds, h, rs, hh, w⟩ := h
  refine tMS.use ⟨hh, qt rs⟩ w.bind fun fl h' H' α' e r kk => ?_
  cases fl with
  | nx e' => exact fun σ' s' => (show aR K g α H Q .non h' from kk) _ H' α' e r .non
  | bk e' => exact kk.elim
  | ct e' => exact kk.elim
  | rt d => exact fun v rv => (show aR K g α H Q d h' from kk) _ H' α' e r rv
end
section
variable {X : Cx} {g : GG}
theorem aw {k : Nat} {f : Addr} {fd : FuncData} {ps : List Str} {m : MF} {np : Nat} {x : Str} {p pos : Pos} {e : Expr} {es : List Expr} {mr : MA} (F : eS X.prog X.w X.K X.mg X.base CX0 k f fd ps (spM X.K g np m)) (hr : fR k X.A) (hg : Gl X x) (hm : X.mg x = some (.ref f)) (hk : PySem.W.keepIn X.K (.ref f) = true) (hb : Binds X.K fd ps [])
    (ha : PA X (e :: es) (tMA X.K g E00 mr)) (hlen : ∀ env h ds h', mr env h = .ok ds h' -> ds.length = np) (hdb : (x == ("__debug__" : Str)) = false := by decide) (he : starEach (e :: es) X.env = (false, eval e X.env) :: starEach es X.env := by rfl) (hpl : (backTo pos (starEach es X.env)).any (·.1) = false := by rfl) :
    PE X (.Call (.Name x p) (e :: es) [] pos) (tM X.K g E00 (ai m mr)) :=
  PE.imp (AR F hr hg hm hk hb .nil Eo ha hdb he hpl) fun σ H Q ⟨α, env, h, s, w⟩ => ⟨α, env, h, s, w.bind.mono fun d1 h1 eq w1 v1 H1 α1 e1 hr1 r1 => by
    show spM X.K g np m (v1 ++ []) H1 Q E0
    rw [List.append_nil]
    refine ⟨?_, α1, d1, h1, r1, hr1, w1.post e1⟩
    rw [<- r1.length]
    exact hlen env h d1 h1 eq⟩
theorem aq : ∀ env h ds h', ak env h = .ok ds h' -> ds.length = 0 := fun env h ds h' e => by cases e; rfl
theorem ah {a : ME} {r : MA} {n : Nat} (q : ∀ env h ds h', r env h = .ok ds h' -> ds.length = n) : ∀ env h ds h', aa a r env h = .ok ds h' -> ds.length = n + 1 := fun env h ds h' e => by
  unfold aa at e
  cases e1 : a env h with
  | ok d h1 =>
    rw [e1] at e
    cases e2 : r env h1 with
    | ok ds2 h2 =>
      have e3 : (R.ok (d :: ds2) h2 : R (List D)) = .ok ds h' := by simpa [R.bind, e2] using e
      cases e3
      simp [q env h1 ds2 h' e2]
    | err x h2 => simp [R.bind, e2] at e
    | bad => simp [R.bind, e2] at e
  | err x h2 => rw [e1] at e; cases e
  | bad => rw [e1] at e; cases e
end
noncomputable def iR (ix : List Nat) (env : En) (d : D) : En := some d :: ix.map fun i => (env[i]?).join
noncomputable def tt1 : MT := fun _ h => .ok true h
noncomputable def gB (rd : Rdr) (tt : MT) (te : ME) (ee : D -> En) : Nat -> Nat -> List D -> Hh -> R (List D)
  | k, i, acc, h => match rd h i with
    | none => .bad
    | some none => .ok acc h
    | some (some d) => match k with
      | 0 => .bad
      | k + 1 => (tt (ee d) h).bind fun b h1 => if b = true then (te (ee d) h1).bind fun y h2 => gB rd tt te ee k (i + 1) (acc ++ [y]) h2 else gB rd tt te ee k (i + 1) acc h1
noncomputable def cL (tt : MT) (te : ME) (ee : D -> En) : List D -> Hh -> R (List D)
  | [], h => .ok [] h
  | d :: ds, h => (tt (ee d) h).bind fun b h1 => if b = true then (te (ee d) h1).bind fun y h2 => (cL tt te ee ds h2).bind fun ys h3 => .ok (y :: ys) h3 else cL tt te ee ds h1
theorem cB {β γ δ : Type} (r : R β) (f : β -> Hh -> R γ) (k : γ -> Hh -> R δ) : (r.bind f).bind k = r.bind fun b h => (f b h).bind k := by cases r <;> rfl
theorem yE (tt : MT) (te : ME) (ee : D -> En) (all : List D) : ∀ (ds : List D) (i : Nat) (acc : List D) (h : Hh), all.drop i = ds -> gB (Src.snap all).rdr tt te ee ds.length i acc h = (cL tt te ee ds h).bind fun ys h' => .ok (acc ++ ys) h' := by
  intro ds
  induction ds with
  | nil =>
    intro i acc h e
    have : all[i]? = none := by
      have := congrArg List.length e
      simp at this
      exact List.getElem?_eq_none (by omega)
    unfold gB cL Src.rdr
    simp [this, R.bind]
  | cons d ds ih =>
    intro i acc h e
    have h0 : all[i]? = some d := by
      have := congrArg (fun l => l[0]?) e
      simpa using this
    have h1 : all.drop (i + 1) = ds := by
      have := congrArg List.tail e
      simpa using this
    unfold gB cL
    have : (Src.snap all).rdr h i = some (some d) := by unfold Src.rdr; simp [h0]
    rw [this]
    show ((tt (ee d) h).bind _) = _
    rw [cB]
    congr 1
    funext b h2
    cases b with
    | false => rw [if_neg Bool.false_ne_true, if_neg Bool.false_ne_true]; exact ih (i + 1) acc h2 h1
    | true =>
      rw [if_pos rfl, if_pos rfl, cB]
      congr 1
      funext y h3
      rw [cB]
      have := ih (i + 1) (acc ++ [y]) h3 h1
      rw [this]
      congr 1
      funext ys h4
      show R.ok (acc ++ [y] ++ ys) h4 = R.ok (acc ++ (y :: ys)) h4
      simp
noncomputable def cW (nl : NL) (mi : MI) (ix : List Nat) (tt : MT) (te : ME) : ME := fun env h => (mi env h).bind fun sr h1 => if sr.fuel h1 <= 1000000 then
  (match sr with
    | .snap ds => cL tt te (iR ix env) ds h1
    | .live n => gB (Src.live n).rdr tt te (iR ix env) ((aF h1 n).getD []).length 0 [] h1
    | .liveE n => gB (Src.liveE n).rdr tt te (iR ix env) ((aF h1 n).getD []).length 0 [] h1).bind nl else .bad
theorem sO {nl : NL} {mi : MI} {ix : List Nat} {tt : MT} {te : ME} {env : En} {h : Hh} : cW nl mi ix tt te env h = (mi env h).bind fun sr h1 => if sr.fuel h1 <= 1000000 then (gB sr.rdr tt te (iR ix env) (sr.fuel h1) 0 [] h1).bind nl else .bad := by
  unfold cW
  congr 1
  funext sr h1
  cases sr with
  | snap ds =>
    have := yE tt te (iR ix env) ds ds 0 [] h1 rfl
    simp only [List.nil_append] at this
    have e : (Src.snap ds).fuel h1 = ds.length := rfl
    rw [e, this, cB]
    rfl
  | live n => rfl
  | liveE n => rfl
theorem vL {K : PySem.W.Frag} {g : GG} {α : List Addr} {H : Hp} {env : En} {σ : St} {ix : List Nat} {d : D} {v : V} (s : jz K g α H env σ) (r : aH K g α H d v) : jz K g α H (iR ix env d) ((nB ix σ).set 0 (some v)) := by
  refine ⟨by simp [iR, nB], fun i e h => ?_⟩
  cases i with
  | zero =>
    have : d = e := by simpa [iR] using h
    subst this
    exact ⟨v, by simp [nB], r⟩
  | succ i =>
    have h' : (ix.map fun i => (env[i]?).join)[i]? = some (some e) := by simpa [iR] using h
    rw [List.getElem?_map] at h'
    cases ei : ix[i]? with
    | none => rw [ei] at h'; cases h'
    | some j =>
      rw [ei] at h'
      have h2 : (env[j]?).join = some e := by simpa using h'
      cases ej : env[j]? with
      | none => rw [ej] at h2; cases h2
      | some oe =>
        rw [ej] at h2
        have h3 : oe = some e := by simpa using h2
        subst h3
        obtain ⟨u, eu, ru⟩ := s.vars j e ej
        refine ⟨u, ?_, ru⟩
        simp only [nB, List.set_cons_zero, List.getElem?_cons_succ, List.getElem?_map, ei, Option.map_some, eu]
        rfl
section
variable {X : Cx} {g : GG}
theorem oP : PTs X [] (tMT X.K g E00 tt1) := fun pins s σ H Q I ⟨α, env, h, s', w⟩ => zW pins s σ H Q I (w H α Ext.refl s'.heap)
theorem lh {c : Expr} {mt : MT} (h : PT X c (tMT X.K g E00 mt)) : PTs X [c] (tMT X.K g E00 mt) := Bd h
theorem sI {K : PySem.W.Frag} {nl : NL} [jC nl] {mi : MI} {tt : MT} {te : ME} {ix : List Nat} {σ : St} {H : Hp} {Q R : VK} (hR : ∀ v H, jZ Q v H -> R v H) (t : tM K g E00 (cW nl mi ix tt te) σ H Q) : Bt (tMI K g E00 mi) ix (tMT K g E00 tt) (tM K g E00 te) σ H R := by
  obtain ⟨α, env, h, s, w⟩ := t
  rw [sO] at w
  refine ⟨α, env, h, s, w.bind.mono fun sr h1 _ w1 J H1 α1 e1 hr1 rd => fun acc hacc => ?_⟩
  obtain ⟨hf, w1⟩ := WQ.gz w1
  have s1 := s.ext e1 hr1
  refine ⟨fun i m ys H => ∃ α h as, Ext K α1 H1 α H /\ aW K g α H h /\ av K g α H as ys /\ H acc = some (.lst ys) /\ acc ∉ α /\ as.length + m <= 1000000 ∧
    WQ K g E00 α1 H1 ((gB sr.rdr tt te (iR ix env) m i as h).bind nl) (aR K g α1 H1 Q),
    ⟨sr.fuel h1, α1, h1, [], Ext.fresh hacc, hr1.grow hacc, .nil, bj, hr1.free hacc, by simpa using hf, w1.post e1⟩, ?_⟩
  rintro i m ys H2 ⟨α2, h2, as, x2, hr2, ra, ha, hna, hm, w2⟩
  have q := rd α2 H2 h2 x2 hr2 i
  unfold gB at w2
  cases e : sr.rdr h2 i with
  | none => rw [e] at w2; exact w2.elim
  | some od =>
    rw [e] at w2 q
    cases od with
    | none =>
      refine .inl ⟨q, ?_⟩
      exact hR _ _ <| jC.at' (show WQ K g E00 α1 H1 (nl as h2) _ from w2) (fun _ _ z => z) x2 hr2 ra ha hna hacc
    | some d =>
      cases m with
      | zero => exact w2.elim
      | succ m =>
        rw [cB] at w2
        have w3 := WQ.bind (show WQ K g E00 α1 H1 ((tt (iR ix env d) h2).bind _) _ from w2)
        refine .inr ⟨q.1, fun x H3 y => ?_⟩
        obtain ⟨α3, x3, hr3, rx⟩ := q.2 x H3 y
        have ha3 := x3.keep _ _ ha hna
        have hna3 : acc ∉ α3 := fun z => by have := x3.new _ z hna; rw [ha] at this; cases this
        have s3 : dX K g α3 H3 (iR ix env d) ((nB ix σ).set 0 (some x)) h2 := ⟨hr3, vL (s1.vs.ext (x2.trans x3)) rx⟩
        refine tMT.use s3 ((w3.ext x2).ext x3) fun b h4 H4 α4 x4 s4 w4 => ?_
        have ha4 := x4.keep _ _ ha3 hna3
        have hna4 : acc ∉ α4 := fun z => by have := x4.new _ z hna3; rw [ha3] at this; cases this
        cases b with
        | false =>
          rw [if_neg Bool.false_ne_true] at w4 ⊢
          exact ⟨m, Nat.lt_succ_self _, α4, h4, as, x2.trans (x3.trans x4), s4.heap, ra.ext (x3.trans x4), ha4, hna4, by omega, w4⟩
        | true =>
          rw [if_pos rfl] at w4 ⊢
          rw [cB] at w4
          refine tM.use s4 (((WQ.bind w4).ext x2).ext (x3.trans x4)) fun y h5 v5 H5 α5 x5 s5 r5 w5 => ?_
          have ha5 := x5.keep _ _ ha4 hna4
          have hna5 : acc ∉ α5 := fun z => by have := x5.new _ z hna4; rw [ha4] at this; cases this
          have soft : yc H5 acc := .inr ⟨_, ha5, fun _ z => (nomatch z), fun _ _ z => (nomatch z), fun _ z => nomatch z⟩
          have x6 : Ex0 K α5 H5 α5 (upd H5 acc (.lst (ys ++ [v5]))) := Ex0.upd soft
          have tr := x2.trans (x3.trans (x4.trans x5))
          refine ⟨ha5, ?_, m, Nat.lt_succ_self _, α5, h5, as ++ [y], ⟨tr.toEx0.trans x6, fun p o z n nt => ?_, tr.new⟩, s5.heap.off soft hna5, ((ra.ext (x3.trans (x4.trans x5))).append (.cons r5 .nil)).ex0 x6, bj, hna5, by rw [List.length_append]; simp; omega, w5⟩
          · rw [<- ra.length, sizeLine_eq]; omega
          · rw [aJ (bw z hacc)]; exact tr.kept p o z n nt
noncomputable def unp {β : Type} (m : En -> Hh -> R β) : En -> Hh -> R β := fun env h => match env with
  | some (.tup [x, y]) :: r => m (some x :: some y :: r) h
  | _ => .bad
theorem B_ {K : PySem.W.Frag} {g : GG} {ε : EE} {α α' : List Addr} {H H' : Hp} {β : Type} {m : En -> Hh -> R β} {d : D} {x : V} {r : En} {h : Hh} {k : β -> Hh -> Prop} (rx : aH K g α H d x) (w : WQ K g ε α' H' (unp m (some d :: r) h) k) :
    ∃ a b p va vb, d = .tup [a, b] /\ x = .ref p /\ H p = some (.tup [va, vb]) /\ aH K g α H a va /\ aH K g α H b vb /\ WQ K g ε α' H' (m (some a :: some b :: r) h) k := by
  cases rx with
  | tup hp rs =>
    cases rs with
    | nil => exact w.elim
    | cons ra rr =>
      cases rr with
      | nil => exact w.elim
      | cons rb rr =>
        cases rr with
        | nil => exact ⟨_, _, _, _, _, rfl, rfl, hp, ra, rb, w⟩
        | cons _ _ => exact w.elim
  | _ => exact w.elim
theorem yT {K : PySem.W.Frag} {g : GG} {α : List Addr} {H : Hp} {env : En} {σ : St} {ix : List Nat} {d e : D} {v u : V} (s : jz K g α H env σ) (r : aH K g α H d v) (q : aH K g α H e u) : jz K g α H (some d :: some e :: ix.map fun i => (env[i]?).join) (some v :: some u :: ix.map fun i => (σ[i]?).join) := by
  have z := vL (ix := ix) s q
  have e1 : (nB ix σ).set 0 (some u) = some u :: ix.map fun i => (σ[i]?).join := rfl
  rw [e1] at z
  refine ⟨by simp, fun i x h => ?_⟩
  cases i with
  | zero => have : d = x := by simpa using h
            subst this; exact ⟨v, rfl, r⟩
  | succ i =>
    obtain ⟨y, ey, ry⟩ := z.vars i x (by simpa [iR] using h)
    exact ⟨y, by simpa using ey, ry⟩
theorem wJ {K : PySem.W.Frag} {nl : NL} [jC nl] {mi : MI} {tt : MT} {te : ME} {ix : List Nat} {σ : St} {H : Hp} {Q R : VK} (hR : ∀ v H, jZ Q v H -> R v H) (t : tM K g E00 (cW nl mi ix (unp tt) (unp te)) σ H Q) : nS (tMI K g E00 mi) 2 ix (yG K 2 (kA (gq 0) (kA (gq 1) zt))) (tMT K g E00 tt) (tM K g E00 te) σ H R := by
  obtain ⟨α, env, h, s, w⟩ := t
  rw [sO] at w
  refine ⟨α, env, h, s, w.bind.mono fun sr h1 _ w1 J H1 α1 e1 hr1 rd => fun acc hacc => ?_⟩
  obtain ⟨hf, w1⟩ := WQ.gz w1
  have s1 := s.ext e1 hr1
  refine ⟨fun i m ys H => ∃ α h as, Ext K α1 H1 α H /\ aW K g α H h /\ av K g α H as ys /\ H acc = some (.lst ys) /\ acc ∉ α /\ as.length + m <= 1000000 ∧
    WQ K g E00 α1 H1 ((gB sr.rdr (unp tt) (unp te) (iR ix env) m i as h).bind nl) (aR K g α1 H1 Q),
    ⟨sr.fuel h1, α1, h1, [], Ext.fresh hacc, hr1.grow hacc, .nil, bj, hr1.free hacc, by simpa using hf, w1.post e1⟩, ?_⟩
  rintro i m ys H2 ⟨α2, h2, as, x2, hr2, ra, ha, hna, hm, w2⟩
  have q := rd α2 H2 h2 x2 hr2 i
  unfold gB at w2
  cases e : sr.rdr h2 i with
  | none => rw [e] at w2; exact w2.elim
  | some od =>
    rw [e] at w2 q
    cases od with
    | none =>
      refine .inl ⟨q, ?_⟩
      exact hR _ _ <| jC.at' (show WQ K g E00 α1 H1 (nl as h2) _ from w2) (fun _ _ z => z) x2 hr2 ra ha hna hacc
    | some d =>
      cases m with
      | zero => exact w2.elim
      | succ m =>
        rw [cB] at w2
        have w3 := WQ.bind (show WQ K g E00 α1 H1 ((unp tt (iR ix env d) h2).bind _) _ from w2)
        refine .inr ⟨q.1, fun σ0 x H3 ⟨ts, tl, e0⟩ y => ?_⟩
        obtain ⟨α3, x3, hr3, rx⟩ := q.2 x H3 y
        have ha3 := x3.keep _ _ ha hna
        have hna3 : acc ∉ α3 := fun z => by have := x3.new _ z hna; rw [ha] at this; cases this
        obtain ⟨da, db, pp, va, vb, rfl, rfl, hq, rda, rdb, w3'⟩ := B_ rx ((w3.ext x2).ext x3)
        obtain ⟨t0, t1, rfl⟩ : ∃ t0 t1, ts = [t0, t1] := by
          match ts, tl with
          | [t0, t1], _ => exact ⟨t0, t1, rfl⟩
        subst e0
        refine ⟨_, _, rfl, SqT.of hq, rfl, _, _, rfl, _, _, rfl, rfl, ⟨[some va, some vb], rfl, rfl⟩, ?_⟩
        have s3 : dX K g α3 H3 (some da :: some db :: ix.map fun i => (env[i]?).join) (some va :: some vb :: ix.map fun i => (σ[i]?).join) h2 := ⟨hr3, yT (s1.vs.ext (x2.trans x3)) rda rdb⟩
        refine tMT.use s3 w3' fun b h4 H4 α4 x4 s4 w4 => ?_
        have ha4 := x4.keep _ _ ha3 hna3
        have hna4 : acc ∉ α4 := fun z => by have := x4.new _ z hna3; rw [ha3] at this; cases this
        cases b with
        | false =>
          rw [if_neg Bool.false_ne_true] at w4 ⊢
          exact ⟨m, Nat.lt_succ_self _, α4, h4, as, x2.trans (x3.trans x4), s4.heap, ra.ext (x3.trans x4), ha4, hna4, by omega, w4⟩
        | true =>
          rw [if_pos rfl] at w4 ⊢
          rw [cB] at w4
          refine tM.use s4 (((WQ.bind w4).ext x2).ext (x3.trans x4)) fun y h5 v5 H5 α5 x5 s5 r5 w5 => ?_
          have ha5 := x5.keep _ _ ha4 hna4
          have hna5 : acc ∉ α5 := fun z => by have := x5.new _ z hna4; rw [ha4] at this; cases this
          have soft : yc H5 acc := .inr ⟨_, ha5, fun _ z => (nomatch z), fun _ _ z => (nomatch z), fun _ z => nomatch z⟩
          have x6 : Ex0 K α5 H5 α5 (upd H5 acc (.lst (ys ++ [v5]))) := Ex0.upd soft
          have tr := x2.trans (x3.trans (x4.trans x5))
          refine ⟨ha5, ?_, m, Nat.lt_succ_self _, α5, h5, as ++ [y], ⟨tr.toEx0.trans x6, fun p o z n nt => ?_, tr.new⟩, s5.heap.off soft hna5, ((ra.ext (x3.trans (x4.trans x5))).append (.cons r5 .nil)).ex0 x6, bj, hna5, by rw [List.length_append]; simp; omega, w5⟩
          · rw [<- ra.length, sizeLine_eq]; omega
          · rw [aJ (bw z hacc)]; exact tr.kept p o z n nt
theorem pg2 {X : Cx} {x y : Str} {px py pt : Pos} {kt : Nat} (hc : X.calm = true) (hn : X.N.Nodup) (h0 : X.N[0]? = some x) (h1 : X.N[1]? = some y) (hx : Loc X.env.scope x /\ X.env.scope.names.lookup x = some .local) (hy : Loc X.env.scope y /\ X.env.scope.names.lookup y = some .local) :
    PG X (.Tuple [.Name x px, .Name y py] kt pt) (yG X.K 2 (kA (gq 0) (kA (gq 1) zt))) := qB hc (fG (cy hn h0 hx.1 (.inr hx.2)) (fG (cy hn h1 hy.1 (.inr hy.2)) mX))
theorem yJ {nl : NL} [jC nl] {elt iter : Expr} {x y : Str} {px py pt : Pos} {kt : Nat} {ifs : List Expr} {scope osc : Scope} {pos : Pos} {mi : MI} {tt : MT} {te : ME} (ix : List Nat) (N' : List Str)
    (hxe : X.xe = fun _ _ => False) (hc : X.calm = true) (ho : X.env.scope = osc) (hN : N' = [x, y] ++ ix.map fun i => (X.N[i]?).getD ("" : Str)) (hnd : N'.Nodup)
    (hall : (∀ y ∈ scope.names, y.2 = .free -> osc.names.lookup y.1 = some .cell) /\ (∀ y ∈ scope.names, y.2 ≠ .cell) /\ scope.kind = .function /\ (∀ y ∈ scope.names, y.2 = .local -> scope.names.lookup y.1 = some .local) /\ (∀ z ∈ N'.drop [x, y].length, scope.names.lookup z = some .free))
    (hi : PI X (.Tuple [.Name x px, .Name y py] kt pt) iter (tMI X.K g E00 mi))
    (hx : ∀ cl C aM aU fp, Loc (cp X scope cl C aM aU fp N').env.scope x /\ (cp X scope cl C aM aU fp N').env.scope.names.lookup x = some .local) (hy : ∀ cl C aM aU fp, Loc (cp X scope cl C aM aU fp N').env.scope y /\ (cp X scope cl C aM aU fp N').env.scope.names.lookup y = some .local)
    (ht : ∀ cl C aM aU fp, PTs (cp X scope cl C aM aU fp N') ifs (tMT X.K g E00 tt))
    (he : ∀ cl C aM aU fp, PE (cp X scope cl C aM aU fp N') elt (tM X.K g E00 te))
    (hs : ∀ x, foldedSetIterable iter X.env x = pure x := by intro _; rfl) :
    PE X (.ListComp elt [⟨.Tuple [.Name x px, .Name y py] kt pt, iter, ifs, 0⟩] scope pos) (tM X.K g E00 (cW nl mi ix (unp tt) (unp te))) := by
  refine PE.imp (PE.frz (tJ (tgr := yG X.K 2 (kA (gq 0) (kA (gq 1) zt))) ix [x, y] N' hxe hc ho hN hnd hall hi (fun cl C aM aU fp => pg2 (X := cp X scope cl C aM aU fp N') hc hnd (show N'[0]? = some x by rw [hN]; rfl) (show N'[1]? = some y by rw [hN]; rfl) (hx cl C aM aU fp) (hy cl C aM aU fp)) ht he hs)) fun σ H Q t => ?_
  exact wJ (fun _ _ z => z) t
end
noncomputable def sml (i : Int) : Bool := decide (i.natAbs < 2 ^ 1900)
theorem nz {i : Int} (h : sml i = true) : Builtin.Int.intBits i <= 1900 := by
  have h' : i.natAbs < 2 ^ 1900 := of_decide_eq_true h
  unfold Builtin.Int.intBits
  split
  · omega
  · rename_i z
    have z' : i.natAbs ≠ 0 := by
      intro q
      apply z
      have : i = 0 := Int.natAbs_eq_zero.mp q
      rw [this]; rfl
    have := (Nat.log2_lt z').mpr h'
    omega
theorem Bb {i : Int} (h : sml i = true) : i.natAbs.log2 < 1900 := by
  have h' : i.natAbs < 2 ^ 1900 := of_decide_eq_true h
  by_cases z : i.natAbs = 0
  · rw [z]; decide
  · exact (Nat.log2_lt z).mpr h'
theorem CP {i : Int} (h : i.natAbs <= 10 ^ 560) : sml i = true := by
  refine decide_eq_true (Nat.lt_of_le_of_lt h (by decide +kernel))
section
variable {X : Cx} {K : PySem.W.Frag} {g : GG} {ε : EE}
theorem OpR.or {f : Value -> Value -> Sem Value} {r r' : R2} (h : OpR X f r) (h' : OpR X f r') : OpR X f (fun x y H Q => r x y H Q \/ r' x y H Q) := fun pins s σ H x y v u Q I rx ry q => q.elim (h pins s σ H x y v u Q I rx ry) (h' pins s σ H x y v u Q I rx ry)
noncomputable def oS (d : D) (h : Hh) : Option (List D) := match d with
  | .frl ds => some ds
  | .ref n => aF h n
  | _ => none
theorem uJ {α : List Addr} {H : Hp} {h : Hh} {d : D} {x : V} {ds : List D} (r : aW K g α H h) (rd : aH K g α H d x) (e : oS d h = some ds) : ∃ p vs, x = .ref p /\ Rd H p (.lst vs) /\ av K g α H ds vs := by
  unfold oS at e
  cases rd with
  | frl hq rs => cases e; exact ⟨_, _, rfl, hq.rd, rs⟩
  | ref hp => obtain ⟨vs, hv, rs⟩ := r.lst e hp; exact ⟨_, vs, rfl, .inl hv, rs⟩
  | _ => cases e
noncomputable def Bv : R2 := fun x y H Q => ∃ l b xs zs, x = .ref l /\ y = .ref b /\ Rd H l (.lst xs) /\ Rd H b (.lst zs) /\ xs.length + zs.length <= sizeLine /\ ∀ p, H p = none -> Q (.ref p) (upd H p (.lst (xs ++ zs)))
theorem C2 {X : Cx} {pins : List (Addr × Obj)} {σ : St} {H : Hp} {s : Shared} {l : Addr} {xs : List V} (I : Inv X pins σ H s) (h : Rd H l (.lst xs)) : ∃ (its : List Value) (n : Nat), xs.length <= sizeLine /\ Vals xs its /\ xs.length = its.length /\ s.heap.get? l = some { cls := .type "list", data := .seq its.toArray n } := by
  obtain ⟨z, its, n, r, e⟩ := h.ok I.hok
  exact ⟨its, n, z, r, r.length, e⟩
theorem Ay : OpR X (binaryOp .Add) Bv := by
  intro pins s σ H x y v u Q I rx ry h
  obtain ⟨l, b, xs, zs, rfl, rfl, hH, hB, hz, q⟩ := h
  cases rx
  cases ry
  obtain ⟨its, n, z, r, hl, e⟩ := C2 I hH
  obtain ⟨its2, n2, z2, r2, hl2, e2⟩ := C2 I hB
  refine PySem.P.add_list e e2 ?_ (by rw [List.size_toArray, List.size_toArray]; omega)
  have ea : its.toArray ++ its2.toArray = (its ++ its2).toArray := by simp
  rw [ea]
  exact ⟨.ref _, _, I.Dc (t' := s.toks) (r.append r2) (by rw [List.length_append]; omega), rfl, q _ I.fresh⟩
noncomputable def dG (nl : NL) : D -> D -> Hh -> R D := fun x y h => match x, y with
  | .int i, .int j => .ok (.int (i + j)) h
  | .tup a, .tup b => if a.length + b.length <= 1000000 then .ok (.tup (a ++ b)) h else .bad
  | .str a, .str b => if a.length + b.length <= 1000000 then .ok (.str (a ++ b)) h else .bad
  | x, y => match oS x h, oS y h with
    | some a, some b => if a.length + b.length <= 1000000 then nl (a ++ b) h else .bad
    | _, _ => .bad
noncomputable abbrev yk (K : PySem.W.Frag) : R2 := fun x y H Q => (rI0 fun i j => .int (i + j)) x y H Q \/ (Bq K x y H Q \/ yN K x y H Q) \/ Bv x y H Q \/ ∃ i j, x = .str i /\ y = .str j /\ i.length + j.length <= sizeLine /\ Q (.str (i ++ j)) H
theorem dY : OpR X (binaryOp .Add) (fun x y H Q => yk X.K x y H (jZ Q)) := OpR.frz (OpR.or CF (OpR.or (OpR.or Bk xB) (OpR.or Ay uK)))
theorem aR.wG {α : List Addr} {H : Hp} {h : Hh} {Q : VK} {d : D} {v : V} (p : aR K g α H Q d h) (r : aW K g α H h) (rd : aH K g α H d v) : jZ Q v H := .inl (p.now r rd)
theorem dZ {nl : NL} [jC nl] : eD K g ε (dG nl) (fun x y H Q => yk K x y H (jZ Q)) := by
  intro α H h a b x y Q r ra rb w
  have gen : ∀ {a b : D} {x y : V}, aH K g α H a x -> aH K g α H b y -> WQ K g ε α H (match oS a h, oS b h with
    | some a, some b => if a.length + b.length <= 1000000 then nl (a ++ b) h else .bad
    | _, _ => .bad) (aR K g α H Q) -> yk K x y H (jZ Q) := by
    intro a b x y ra rb w
    cases e1 : oS a h with
    | none => simp only [e1] at w; exact w.elim
    | some da =>
      cases e2 : oS b h with
      | none => simp only [e1, e2] at w; exact w.elim
      | some db =>
        simp only [e1, e2] at w
        obtain ⟨p, va, rfl, hva, rsa⟩ := uJ r ra e1
        obtain ⟨q, vb, rfl, hvb, rsb⟩ := uJ r rb e2
        obtain ⟨hl, w⟩ := WQ.gz w
        refine .inr (.inr (.inl ⟨p, q, va, vb, rfl, rfl, hva, hvb, iJ (by rw [<- rsa.length, <- rsb.length]; exact hl), fun l hl' => ?_⟩))
        exact NL.post w r (rsa.append rsb) hl'
  unfold dG at w
  split at w
  · cases ra
    cases rb
    exact .inl ⟨_, _, rfl, rfl, aR.wG w r (.int _)⟩
  · cases ra with
    | @tup da pa va ha rsa =>
      cases rb with
      | @tup db pb vb hb rsb =>
        obtain ⟨hl, w⟩ := WQ.gz w
        refine .inr (.inl ?_)
        cases va with
        | nil =>
          cases rsa
          exact .inr ⟨_, _, _, rfl, rfl, SqT.of ha, SqT.of hb, aR.wG w r (.tup hb rsb)⟩
        | cons z zs =>
          refine .inl ⟨_, _, _, _, rfl, rfl, SqT.of ha, SqT.of hb, by simp, iJ (by rw [<- rsa.length, <- rsb.length]; exact hl), fun e => ?_, fun _ p hp => .inl (aR.tup w r (rsa.append rsb) hp)⟩
          subst e
          cases rsb
          refine aR.wG w r (.tup ha ?_)
          rw [List.append_nil]; exact rsa
  · cases ra
    cases rb
    obtain ⟨hl, w⟩ := WQ.gz w
    exact .inr (.inr (.inr ⟨_, _, rfl, rfl, iJ hl, aR.wG w r (.str _)⟩))
  · exact gen ra rb w
noncomputable def eT : D -> D -> Hh -> R D
  | .int i, .int j, h => .ok (.int (i - j)) h
  | _, _, _ => .bad
theorem eH : eD K g ε eT (rI0 fun i j => .int (i - j)) := by
  intro α H h a b x y Q r ra rb w
  unfold eT at w
  cases ra with
  | int i =>
    cases rb with
    | int j => exact ⟨i, j, rfl, rfl, aR.now w r (.int _)⟩
    | _ => exact w.elim
  | _ => exact w.elim
noncomputable def Bp : R2 := fun x y H Q => ∃ l k xs, x = .ref l /\ y = .int k /\ Rd H l (.lst xs) /\ -(2 ^ 63) <= k /\ k < 2 ^ 63 /\ xs.length * k.toNat <= sizeLine ∧
  ∀ p, H p = none -> Q (.ref p) (upd H p (.lst (List.replicate k.toNat xs).flatten))
theorem A5 : OpR X (binaryOp .Mult) Bp := by
  intro pins s σ H x y v u Q I rx ry h
  obtain ⟨l, k, xs, rfl, rfl, hH, h1, h2, hz, q⟩ := h
  cases rx
  obtain ⟨t, rfl⟩ := ry
  obtain ⟨its, n, z, r, hl, e⟩ := C2 I hH
  have hlen : its.toArray.size * k.toNat <= sizeLine := by rw [List.size_toArray, <- hl]; exact hz
  have hcap : ¬ its.toArray.size * k.toNat > (2 ^ 63 - 1) / 8 := by
    have : (sizeLine : Nat) <= (2 ^ 63 - 1) / 8 := by decide
    omega
  have hfit : ¬ (!Builtin.List.listFitsIndex k) = true := by
    rw [fitsIndex_both h1 h2]
    exact Bool.false_ne_true
  have hlong : ¬ Builtin.List.listTooLong (its.toArray.size * k.toNat) = true := by
    rw [yR hlen]
    exact Bool.false_ne_true
  have hnew : List.foldl (fun x1 x2 => x1 ++ x2) #[] (List.replicate (if its.toArray.isEmpty = true then 0 else k.toNat) its.toArray) = (List.replicate k.toNat its).flatten.toArray := by
    have f0 : ∀ m : Nat, List.foldl (fun x1 x2 => x1 ++ x2) #[] (List.replicate m its.toArray) = (List.replicate m its).flatten.toArray := fun m => by
      have := foldl_rep its m []
      rw [List.nil_append] at this
      exact this
    rw [f0]
    cases its with
    | nil => simp
    | cons a r' => rw [if_neg (by simp)]
  refine wpAny_binaryOp_repeat_ref (T := "list") (U := "int") (by decide) ⟨_, e, rfl⟩ (fun s' => typeIs_int s' k t) noFill_list_mul F.fills_int_mul F.slot_int_rmul repeat_list F.slot_int_index.lookup
    (call_meets F.slot_int_rmul (typeIs_int s k t) F.entry_int_rmul (F.args_int_rmul_2 _ _) (int___rmul___int_list k t l its.toArray n)
      ⟨e, rfl, ⟨_, e, rfl⟩, call_meets F.slot_list_mul ⟨_, e, rfl⟩ F.entry_list_mul (F.args_list_mul_2 _ _) (AutoListH.list___mul___list_int_3 l its.toArray n k t hfit hcap hlong) ⟨e, ?_⟩⟩)
  rw [hnew]
  exact ⟨.ref _, _, I.Dc (t' := s.toks) (r.rep k.toNat) (by rw [len_rep, Nat.mul_comm]; exact hz), rfl, q _ I.fresh⟩
noncomputable def sW (nl : NL) : D -> D -> Hh -> R D := fun x y h => match x, y with
  | .int i, .int j => if sml i = true /\ sml j = true then .ok (.int (i * j)) h else .bad
  | x, .int k => match oS x h with
    | some ds => if k.natAbs <= 1000000 /\ ds.length * k.toNat <= 1000000 then nl (List.replicate k.toNat ds).flatten h else .bad
    | none => .bad
  | _, _ => .bad
theorem Av : OpR X (binaryOp .Mult) (rI (fun i j => sml i = true /\ sml j = true) fun i j => .int (i * j)) := opI fun _ _ _ _ _ _ _ hc q => mul_int q (IntMulOk.of_bits (Nat.le_trans (nz hc.1) (by decide)) (Nat.le_trans (nz hc.2) (by decide)))
noncomputable abbrev zz : R2 := fun x y H Q => (rI (fun i j => sml i = true /\ sml j = true) fun i j => .int (i * j)) x y H Q \/ Bp x y H Q
theorem u9 : OpR X (binaryOp .Mult) (fun x y H Q => zz x y H (jZ Q)) := OpR.frz (OpR.or Av A5)
theorem uw {nl : NL} [jC nl] : eD K g ε (sW nl) (fun x y H Q => zz x y H (jZ Q)) := by
  intro α H h a b x y Q r ra rb w
  have gen : ∀ {a : D} {k : Int} {x : V}, aH K g α H a x -> WQ K g ε α H (match oS a h with
    | some ds => if k.natAbs <= 1000000 /\ ds.length * k.toNat <= 1000000 then nl (List.replicate k.toNat ds).flatten h else .bad
    | none => .bad) (aR K g α H Q) -> zz x (.int k) H (jZ Q) := by
    intro a k x ra w
    cases e1 : oS a h with
    | none => simp only [e1] at w; exact w.elim
    | some ds =>
      simp only [e1] at w
      obtain ⟨hl, w⟩ := WQ.gz w
      obtain ⟨p, vs, rfl, hv, rs⟩ := uJ r ra e1
      refine .inr ⟨p, k, vs, rfl, rfl, hv, by omega, by omega, iJ (by rw [<- rs.length]; exact hl.2), fun l hl' => ?_⟩
      exact NL.post w r (rs.flat k.toNat) hl'
  unfold sW at w
  split at w
  · cases ra
    cases rb
    obtain ⟨hc, w⟩ := WQ.gz w
    exact .inl ⟨_, _, rfl, rfl, hc, aR.wG w r (.int _)⟩
  · cases rb
    exact gen ra w
  · exact w.elim
noncomputable def yg : D -> D -> Hh -> R D
  | .int i, .int j, h => if 0 < j /\ sml j = true then .ok (.int (i / j)) h else .bad
  | _, _, _ => .bad
theorem sH : OpR X (binaryOp .FloorDiv) (rI (fun i j => 0 < j /\ sml j = true) fun i j => .int (i / j)) := opI fun i j _ _ _ _ _ hc q => by
  have e : i.fdiv j = i / j := Int.fdiv_eq_ediv_of_nonneg _ (by omega)
  refine floordiv_int (by omega) ?_ (.inl (PyProof.noPylong_of_log2 (Nat.lt_trans (Bb hc.2) (by decide))))
  rw [e]; exact q
theorem yY : eD K g ε yg (rI (fun i j => 0 < j /\ sml j = true) fun i j => .int (i / j)) := by
  intro α H h a b x y Q r ra rb w
  unfold yg at w
  cases ra with
  | int i =>
    cases rb with
    | int j =>
      obtain ⟨hc, w⟩ := WQ.gz w
      exact ⟨i, j, rfl, rfl, hc, aR.now w r (.int _)⟩
    | _ => exact w.elim
  | _ => exact w.elim
noncomputable def sY : D -> D -> Hh -> R D
  | .int i, .int j, h => if 0 < j then .ok (.int (i % j)) h else .bad
  | _, _, _ => .bad
theorem n4 : eD K g ε sY (rI (fun _ j => 0 < j) fun i j => .int (i % j)) := by
  intro α H h a b x y Q r ra rb w
  unfold sY at w
  cases ra with
  | int i =>
    cases rb with
    | int j =>
      obtain ⟨hc, w⟩ := WQ.gz w
      exact ⟨i, j, rfl, rfl, hc, aR.now w r (.int _)⟩
    | _ => exact w.elim
  | _ => exact w.elim
noncomputable def zZ : D -> D -> Hh -> R D
  | .int i, .int j, h => if 0 <= j /\ j.natAbs <= 1000 /\ sml i = true then .ok (.int (i ^ j.toNat)) h else .bad
  | _, _, _ => .bad
theorem zV : OpR X (binaryOp .Pow) (rI (fun i j => 0 <= j /\ j.natAbs <= 1000 /\ sml i = true) fun i j => .int (i ^ j.toNat)) := opI fun i j _ _ _ _ _ hc q => pow_int hc.1 (by
  have := nz hc.2.2
  have h1 : ((Builtin.Int.intBits i : Nat) : Int) <= 1900 := by exact_mod_cast this
  calc ((Builtin.Int.intBits i : Nat) : Int) * j <= 1900 * j := Int.mul_le_mul_of_nonneg_right h1 hc.1
    _ <= 1900 * 1000 := Int.mul_le_mul_of_nonneg_left (show j <= 1000 by have := hc.2.1; omega) (by decide)
    _ <= 2 ^ 27 := by decide) q
theorem CV : eD K g ε zZ (rI (fun i j => 0 <= j /\ j.natAbs <= 1000 /\ sml i = true) fun i j => .int (i ^ j.toNat)) := by
  intro α H h a b x y Q r ra rb w
  unfold zZ at w
  cases ra with
  | int i =>
    cases rb with
    | int j =>
      obtain ⟨hc, w⟩ := WQ.gz w
      exact ⟨i, j, rfl, rfl, hc, aR.now w r (.int _)⟩
    | _ => exact w.elim
  | _ => exact w.elim
noncomputable def lT : D -> Hh -> R D
  | .int i, h => .ok (.int (-i)) h
  | _, _ => .bad
theorem oq : D_ K g ε lT (rU fun i => .int (-i)) := by
  intro α H h a x Q r ra w
  unfold lT at w
  cases ra with
  | int i => exact ⟨i, rfl, aR.now w r (.int _)⟩
  | _ => exact w.elim
noncomputable def v_ (p : Int -> Int -> Bool) : D -> D -> Hh -> R D
  | .int i, .int j, h => .ok (.bl (p i j)) h
  | _, _, _ => .bad
noncomputable def ltI : Int -> Int -> Bool
  | .ofNat a, .ofNat b => Nat.blt a b
  | .ofNat _, .negSucc _ => false
  | .negSucc _, .ofNat _ => true
  | .negSucc a, .negSucc b => Nat.blt b a
theorem ow : ltI = fun i j => decide (i < j) := by
  funext i j
  cases i with
  | ofNat a =>
    cases j with
    | ofNat b =>
      show Nat.blt a b = _
      rw [Bool.eq_iff_iff, Nat.blt_eq, decide_eq_true_iff]
      exact Int.ofNat_lt.symm
    | negSucc b => exact (decide_eq_false (by have : Int.ofNat a = (a : Int) := rfl; omega)).symm
  | negSucc a =>
    cases j with
    | ofNat b => exact (decide_eq_true (by have : Int.ofNat b = (b : Int) := rfl; omega)).symm
    | negSucc b =>
      show Nat.blt b a = _
      rw [Bool.eq_iff_iff, Nat.blt_eq, decide_eq_true_iff]
      omega
noncomputable def leI (i j : Int) : Bool := !ltI j i
theorem rG : leI = fun i j => decide (i <= j) := by
  funext i j
  unfold leI
  rw [ow, Bool.eq_iff_iff]
  simp
noncomputable def dLt : D -> D -> Hh -> R D := v_ ltI
noncomputable def dLe : D -> D -> Hh -> R D := v_ leI
noncomputable def dGt : D -> D -> Hh -> R D := v_ fun i j => ltI j i
noncomputable def dGe : D -> D -> Hh -> R D := v_ fun i j => leI j i
theorem rH {p : Int -> Int -> Bool} : eD K g ε (v_ p) (rI0 fun i j => .bl (p i j)) := by
  intro α H h a b x y Q r ra rb w
  unfold v_ at w
  cases ra with
  | int i =>
    cases rb with
    | int j => exact ⟨i, j, rfl, rfl, aR.now w r (.bl _)⟩
    | _ => exact w.elim
  | _ => exact w.elim
theorem nh : eD K g ε dLt (rI0 fun i j => .bl (decide (i < j))) := by
  unfold dLt; rw [ow]; exact rH
theorem t6 : eD K g ε dLe (rI0 fun i j => .bl (decide (i <= j))) := by
  unfold dLe; rw [rG]; exact rH
theorem pO : eD K g ε dGt (rI0 fun i j => .bl (decide (j < i))) := by
  unfold dGt; rw [ow]; exact rH
theorem Ey : eD K g ε dGe (rI0 fun i j => .bl (decide (j <= i))) := by
  unfold dGe; rw [rG]; exact rH
noncomputable def iN (d : D) (h : Hh) : Option (List D) := match d with
  | .tup ds => some ds
  | .frl ds => some ds
  | .scr ds => some ds
  | .ref n => aF h n
  | _ => none
theorem rL {α : List Addr} {H : Hp} {h : Hh} {d : D} {x : V} {ds : List D} (r : aW K g α H h) (rd : aH K g α H d x) (e : iN d h = some ds) : ∃ p vs, x = .ref p /\ (SqL K H p vs \/ SqT K H p vs) /\ av K g α H ds vs := by
  unfold iN at e
  cases rd with
  | tup hq rs => cases e; exact ⟨_, _, rfl, .inr (SqT.of hq), rs⟩
  | frl hq rs => cases e; exact ⟨_, _, rfl, .inl hq.sq, rs⟩
  | scr hq rs => cases e; exact ⟨_, _, rfl, .inl hq.sq, rs⟩
  | ref hp => obtain ⟨vs, hv, rs⟩ := r.lst e hp; exact ⟨_, vs, rfl, .inl (SqL.of hv), rs⟩
  | _ => cases e
noncomputable def dIx : D -> D -> Hh -> R D := fun a b h => match iN a h, b with
  | some ds, .int i => match atI ds i with
    | some d => .ok d h
    | none => .bad
  | _, _ => .bad
theorem vG {α : List Addr} {H : Hp} {ds : List D} {vs : List V} {i : Int} {d : D} (rs : av K g α H ds vs) (e : atI ds i = some d) : ∃ v, atI vs i = some v /\ aH K g α H d v := by
  unfold atI at e ⊢
  rw [<- rs.length]
  cases e1 : ixN ds.length i with
  | none => rw [e1] at e; cases e
  | some j =>
    rw [e1] at e
    exact rs.get e
theorem fh : eD K g ε dIx (rIx K) := by
  intro α H h a b x y Q r ra rb w
  unfold dIx at w
  cases e1 : iN a h with
  | none => simp only [e1] at w; exact w.elim
  | some ds =>
    simp only [e1] at w
    obtain ⟨p, vs, rfl, hq, rs⟩ := rL r ra e1
    cases rb with
    | int i =>
      cases e2 : atI ds i with
      | none => simp only [e2] at w; exact w.elim
      | some d =>
        simp only [e2] at w
        obtain ⟨v, ev, rv⟩ := vG rs e2
        rcases hq with hq | hq
        · exact .inl ⟨p, vs, i, v, rfl, rfl, hq, ev, aR.now w r rv⟩
        · exact .inr (.inl ⟨p, vs, i, v, rfl, rfl, hq, ev, aR.now w r rv⟩)
    | _ => exact w.elim
noncomputable def ie : D -> D -> D -> Hh -> R Unit := fun o i v h => match o, i with
  | .ref n, .int k => match aF h n with
    | some ds => match ixN ds.length k with
      | some j => .ok () (h.set n (.lst (ds.set j v)))
      | none => .bad
    | none => .bad
  | _, _ => .bad
theorem nQ : Eb K g ε ie Bu := by
  intro α H h o i v x y z Q r ro ri rv w
  unfold ie at w
  cases ro with
  | @ref n p hp =>
    cases ri with
    | int k =>
      cases e1 : aF h n with
      | none => simp only [e1] at w; exact w.elim
      | some ds =>
        simp only [e1] at w
        cases e2 : ixN ds.length k with
        | none => simp only [e2] at w; exact w.elim
        | some j =>
          simp only [e2] at w
          obtain ⟨vs, hv, rs⟩ := r.lst e1 hp
          refine ⟨p, vs, k, j, rfl, rfl, hv, by rw [<- rs.length]; exact e2, ?_⟩
          have x := Ext.write (o := .lst (vs.set j z)) r hp
          exact w _ α x (r.write hp ⟨_, bj, (rs.set rv j).ext x⟩)
    | _ => exact w.elim
  | _ => exact w.elim
noncomputable def cutD (xs : List D) (lo hi : Option Int) : List D := (xs.drop (HT.sIx xs.length 0 lo)).take (HT.sIx xs.length xs.length hi - HT.sIx xs.length 0 lo)
theorem kZ {α : List Addr} {H : Hp} {ds : List D} {vs : List V} (rs : av K g α H ds vs) (lo hi : Option Int) : av K g α H (cutD ds lo hi) (o7 vs lo hi) := by
  unfold cutD o7
  rw [<- rs.length]
  exact (rs.drop _).take _
noncomputable abbrev MO := En -> Hh -> R (Option Int)
noncomputable def hJ : MO := fun _ h => .ok none h
noncomputable def jn (a : ME) : MO := fun env h => (a env h).bind fun d h1 => match d with
  | .int i => .ok (some i) h1
  | _ => .bad
noncomputable def tMO (K : PySem.W.Frag) (g : GG) (ε : EE) (m : MO) : TO := fun σ H Q => ∃ α env h, dX K g α H env σ h /\ WQ K g ε α H (m env h) fun o h' => ∀ H' α', Ext K α H α' H' -> aW K g α' H' h' -> Q o H'
theorem PO.imp {e : Option Expr} {t t' : TO} (h : PO X e t) (i : ∀ σ H Q, t' σ H Q -> t σ H Q) : PO X e t' := fun pins s σ H Q I w => h pins s σ H Q I (i σ H Q w)
theorem vP : PO X none (tMO X.K g ε hJ) := PO.imp A8 fun σ H Q ⟨α, env, h, s, w⟩ => w H α Ext.refl s.heap
theorem mV {e : Expr} {me : ME} (he : PE X e (tM X.K g ε me)) : PO X (some e) (tMO X.K g ε (jn me)) := PO.imp (Ah he) fun σ H Q ⟨α, env, h, s, w⟩ => tM.use s w.bind fun d1 h1 v1 H1 α1 e1 s1 r1 w1 => by
  cases r1 with
  | int i => exact ⟨i, rfl, w1 H1 α1 e1 s1.heap⟩
  | _ => exact w1.elim
noncomputable def xu (nl : NL) : D -> Option Int -> Option Int -> Hh -> R D := fun d lo hi h => match d with
  | .tup ds => .ok (.tup (cutD ds lo hi)) h
  | .frl ds => nl (cutD ds lo hi) h
  | .scr ds => nl (cutD ds lo hi) h
  | .ref n => match aF h n with
    | some ds => nl (cutD ds lo hi) h
    | none => .bad
  | _ => .bad
noncomputable def iD (nl : NL) (a : ME) (l u : MO) : ME := fun env h => (a env h).bind fun x h1 => (l env h1).bind fun lo h2 => (u env h2).bind fun hi h3 => xu nl x lo hi h3
theorem tMO.use {α : List Addr} {H : Hp} {env : En} {σ : St} {h : Hh} {m : MO} {Q : Option Int -> Hp -> Prop} {k : Option Int -> Hh -> Prop} (s : dX K g α H env σ h) (w : WQ K g ε α H (m env h) k)
    (q : ∀ d h' H' α', Ext K α H α' H' -> dX K g α' H' env σ h' -> k d h' -> Q d H') : tMO K g ε m σ H Q :=
  ⟨α, env, h, s, w.mono fun d h' _ kk H' α' e r => q d h' H' α' e (s.ext e r) kk⟩
theorem oX {nl : NL} [jC nl] {e : Expr} {me : ME} {lo hi : Option Expr} {ml mh : MO} {p2 pos : Pos} (he : PE X e (tM X.K g ε me)) (hl : PO X lo (tMO X.K g ε ml)) (hu : PO X hi (tMO X.K g ε mh)) : PE X (.Subscript e (.Slice lo hi none p2) pos) (tM X.K g ε (iD nl me ml mh)) :=
  PE.imp (PE.frz (yd (SlR.or AN (SlR.or Cr Aj)) he hl hu)) fun σ H Q ⟨α, env, h, s, w⟩ => tM.use s w.bind fun d1 h1 v1 H1 α1 e1 s1 r1 w1 => tMO.use s1 (w1.ext e1).bind fun o2 h2 H2 α2 e2 s2 w2 => tMO.use s2 (w2.ext e2).bind fun o3 h3 H3 α3 e3 s3 w3 => by
    have tr := e1.trans (e2.trans e3)
    have r3 := r1.ext (e2.trans e3)
    have w4 := (w3.ext e3).mono fun _ _ _ p => aR.ext tr p
    unfold xu at w4
    cases r3 with
    | @frl ds p vs hq rs => exact .inl ⟨_, _, rfl, hq.sq, fun l hl => NL.post w4 s3.heap (kZ rs _ _) hl⟩
    | @scr ds p vs hq rs => exact .inl ⟨_, _, rfl, hq.sq, fun l hl => NL.post w4 s3.heap (kZ rs _ _) hl⟩
    | @ref n p hp =>
      cases e1 : aF h3 n with
      | none => simp only [e1] at w4; exact w4.elim
      | some ds =>
        simp only [e1] at w4
        obtain ⟨vs, hv, rs⟩ := s3.heap.lst e1 hp
        exact .inl ⟨_, _, rfl, SqL.of hv, fun l hl => NL.post w4 s3.heap (kZ rs _ _) hl⟩
    | @tup ds p vs hq rs =>
      refine .inr ?_
      by_cases hw : HT.sIx vs.length 0 o2 = 0 /\ HT.sIx vs.length vs.length o3 = vs.length
      · refine .inr ⟨_, _, rfl, SqT.of hq, hw.1, hw.2, ?_⟩
        refine aR.wG w4 s3.heap (.tup hq ?_)
        have : o7 vs o2 o3 = vs := by unfold o7; rw [hw.1, hw.2]; simp
        have q := kZ rs o2 o3
        rw [this] at q
        exact q
      · exact .inl ⟨_, _, rfl, SqT.of hq, hw, fun l hl => .inl (aR.tup w4 s3.heap (kZ rs _ _) hl)⟩
    | _ => exact w4.elim
end
noncomputable def fQ : D -> Bool
  | .non => true | .bl _ => true | .int _ => true | .str _ => true
  | _ => false
noncomputable def eqF : D -> D -> Bool
  | .non, .non => true
  | .bl a, .bl b => a == b
  | .bl a, .int b => (if a then 1 else 0) == b
  | .int a, .bl b => a == (if b then 1 else 0)
  | .int a, .int b => a == b
  | .str a, .str b => a == b
  | _, _ => false
noncomputable def eqL (f : D -> D -> Option Bool) : List D -> List D -> Option Bool
  | x :: xs, y :: ys => match f x y, eqL f xs ys with
    | some b, some c => some (b && c)
    | _, _ => none
  | [], [] => some true
  | _, _ => some false
inductive Vw where
  | fl | tp (ds : List D) | ls (ds : List D) | no
noncomputable def vw (d : D) (h : Hh) : Vw := match d with
  | .non => .fl | .bl _ => .fl | .int _ => .fl | .str _ => .fl
  | .tup ds => .tp ds
  | .frl ds => .ls ds
  | .scr ds => .ls ds
  | .ref n => match aF h n with
    | some ds => .ls ds
    | none => .no
  | _ => .no
noncomputable def eqD : Nat -> Hh -> D -> D -> Option Bool
  | 0, _, _, _ => none
  | k + 1, h, a, b => match vw a h, vw b h with
    | .fl, .fl => some (eqF a b)
    | .tp xs, .tp ys => eqL (eqD k h) xs ys
    | .ls xs, .ls ys => if xs.length = ys.length then eqL (eqD k h) xs ys else some false
    | .fl, .tp _ => some false
    | .fl, .ls _ => some false
    | .tp _, .fl => some false
    | .tp _, .ls _ => some false
    | .ls _, .fl => some false
    | .ls _, .tp _ => some false
    | _, _ => none
section
variable {K : PySem.W.Frag} {g : GG} {α : List Addr} {H : Hp} {h : Hh}
theorem oK {f : D -> D -> Option Bool} (hf : ∀ a b x c, aH K g α H a x -> aH K g α H b x -> f a b = some c -> c = true) : ∀ {xs ys : List D} {vs : List V} {c : Bool}, av K g α H xs vs -> av K g α H ys vs -> eqL f xs ys = some c -> c = true
  | _, _, _, _, .nil, .nil, e => by simp [eqL] at e; exact e
  | _, _, _, c, .cons r t, .cons r' t', e => by
    unfold eqL at e
    split at e
    · rename_i b c' h1 h2
      have e1 := hf _ _ _ _ r r' h1
      have e2 := oK hf t t' h2
      subst e1 e2
      exact (Option.some.inj e).symm
    · cases e
theorem mm {d : D} {x : V} (rd : aH K g α H d x) (e : vw d h = .fl) : fQ d = true := by
  cases rd with
  | ref hp => unfold vw at e; simp only at e; split at e <;> cases e
  | _ => first | rfl | cases e
theorem mj {d : D} {x : V} {ds : List D} (rd : aH K g α H d x) (e : vw d h = .tp ds) : ∃ p vs, x = .ref p /\ SqT K H p vs /\ av K g α H ds vs := by
  cases rd with
  | tup hp rs => cases e; exact ⟨_, _, rfl, SqT.of hp, rs⟩
  | ref hp => unfold vw at e; simp only at e; split at e <;> cases e
  | _ => cases e
theorem l8 {d : D} {x : V} {ds : List D} (r : aW K g α H h) (rd : aH K g α H d x) (e : vw d h = .ls ds) : ∃ p vs, x = .ref p /\ SqL K H p vs /\ av K g α H ds vs := by
  cases rd with
  | frl hp rs => cases e; exact ⟨_, _, rfl, hp.sq, rs⟩
  | scr hp rs => cases e; exact ⟨_, _, rfl, hp.sq, rs⟩
  | @ref n p hp =>
    unfold vw at e
    simp only at e
    cases el : aF h n with
    | none => rw [el] at e; cases e
    | some ds' =>
      rw [el] at e; cases e
      obtain ⟨vs, hv, rs⟩ := r.lst el hp
      exact ⟨_, _, rfl, SqL.of hv, rs⟩
  | _ => cases e
theorem vk {f : D -> D -> Option Bool} : ∀ {xs ys : List D} {c : Bool}, eqL f xs ys = some c →
    (∀ (j : Nat) (x y : D), xs[j]? = some x -> ys[j]? = some y -> ∃ b, f x y = some b) /\ c = ((List.range (min xs.length ys.length)).all (fun j => ((f (xs.getD j .non) (ys.getD j .non)).getD false)) && xs.length == ys.length)
  | [], [], c, e => by
    simp [eqL] at e
    refine ⟨fun j x y h => by simp at h, ?_⟩
    simp [<- e]
  | [], _ :: _, c, e => by
    simp [eqL] at e
    exact ⟨fun j x y h => by simp at h, by simp [<- e]⟩
  | _ :: _, [], c, e => by
    simp [eqL] at e
    exact ⟨fun j x y _ h => by simp at h, by simp [<- e]⟩
  | x :: xs, y :: ys, c, e => by
    unfold eqL at e
    split at e
    · rename_i b c' h1 h2
      obtain ⟨q1, q2⟩ := vk h2
      refine ⟨fun j x' y' hx hy => ?_, ?_⟩
      · cases j with
        | zero => simp at hx hy; subst hx hy; exact ⟨b, h1⟩
        | succ j => exact q1 j x' y' (by simpa using hx) (by simpa using hy)
      · have e' := (Option.some.inj e).symm
        rw [e', q2]
        have hm : min (x :: xs).length (y :: ys).length = min xs.length ys.length + 1 := by simp [Nat.succ_min_succ]
        rw [hm, List.range_succ_eq_map, List.all_cons, List.all_map]
        have h0 : (f ((x :: xs).getD 0 .non) ((y :: ys).getD 0 .non)).getD false = b := by
          show (f x y).getD false = b
          rw [h1]; rfl
        rw [h0]
        have hlen : ((x :: xs).length == (y :: ys).length) = (xs.length == ys.length) := by simp
        rw [hlen, Bool.and_assoc]
        rfl
    · cases e
end
section
variable {X : Cx} {g : GG} {pins : List (Addr × Obj)} {σ : St} {H : Hp} {s : Shared} {α : List Addr} {h : Hh}
open PySem.SeqAt
theorem A0 {A : Around} {a b : D} {x y : V} {u v : Value} {K : PySem.W.Frag} (ra : aH K g α H a x) (rb : aH K g α H b y) (ru : RelV x u) (rv : RelV y v) (fa : fQ a = true) (fb : fQ b = true) :
    EqAt A s u v (eqF a b) /\ RcAt A s u v (eqF a b) /\ RcNeAt A s u v (!eqF a b) := by
  cases ra with
  | non =>
    cases ru
    cases rb with
    | non => cases rv; exact ⟨.same _, .none_none, .none_none⟩
    | bl z => cases rv; exact ⟨.none_bool z, .none_bool z, .none_bool z⟩
    | int z => obtain ⟨t, rfl⟩ := rv; exact ⟨.none_int z t, .none_int z t, .none_int z t⟩
    | str z => obtain ⟨t, rfl⟩ := rv; exact ⟨.none_str z t, .none_str z t, .none_str z t⟩
    | _ => cases fb
  | bl q =>
    cases ru
    cases rb with
    | non => cases rv; exact ⟨.bool_none q, .bool_none q, .bool_none q⟩
    | bl z => cases rv; exact ⟨.bool_bool q z, .bool_bool q z, .bool_bool q z⟩
    | int z => obtain ⟨t, rfl⟩ := rv; exact ⟨.bool_int q z t, .bool_int q z t, .bool_int q z t⟩
    | str z => obtain ⟨t, rfl⟩ := rv; exact ⟨.bool_str q z t, .bool_str q z t, .bool_str q z t⟩
    | _ => cases fb
  | int q =>
    obtain ⟨t', rfl⟩ := ru
    cases rb with
    | non => cases rv; exact ⟨.int_none q t', .int_none q t', .int_none q t'⟩
    | bl z => cases rv; exact ⟨.int_bool q t' z, .int_bool q t' z, .int_bool q t' z⟩
    | int z => obtain ⟨t, rfl⟩ := rv; exact ⟨.int_int q t' z t, .int_int q t' z t, .int_int q t' z t⟩
    | str z => obtain ⟨t, rfl⟩ := rv; exact ⟨.int_str q t' z t, .int_str q t' z t, .int_str q t' z t⟩
    | _ => cases fb
  | str q =>
    obtain ⟨t', rfl⟩ := ru
    cases rb with
    | non => cases rv; exact ⟨.str_none q t', .str_none q t', .str_none q t'⟩
    | bl z => cases rv; exact ⟨.str_bool q t' z, .str_bool q t' z, .str_bool q t' z⟩
    | int z => obtain ⟨t, rfl⟩ := rv; exact ⟨.str_int q t' z t, .str_int q t' z t, .str_int q t' z t⟩
    | str z => obtain ⟨t, rfl⟩ := rv; exact ⟨.str_str q t' z t, .str_str q t' z t, .str_str q t' z t⟩
    | _ => cases fb
  | _ => cases fa
theorem t9 {A : Around} {b : D} {y : V} {v : Value} {p : Addr} {its : Array Value} {K : PySem.W.Frag} (ht : s.heap.IsTuple p its) (hu : A.units < cLine) (rb : aH K g α H b y) (rv : RelV y v) (fb : fQ b = true) :
    (EqAt A s (.ref p) v false /\ RcAt A s (.ref p) v false /\ RcNeAt A s (.ref p) v true) /\ (EqAt A s v (.ref p) false /\ RcAt A s v (.ref p) false /\ RcNeAt A s v (.ref p) true) := by
  cases rb with
  | non => cases rv; exact ⟨⟨.tuple_none ht hu, .tuple_none ht hu, .tuple_none ht hu⟩, .none_tuple ht hu, .none_tuple ht hu, .none_tuple ht hu⟩
  | bl z => cases rv; exact ⟨⟨.tuple_bool z ht hu, .tuple_bool z ht hu, .tuple_bool z ht hu⟩, .bool_tuple z ht hu, .bool_tuple z ht hu, .bool_tuple z ht hu⟩
  | int z => obtain ⟨t, rfl⟩ := rv; exact ⟨⟨.tuple_int z t ht hu, .tuple_int z t ht hu, .tuple_int z t ht hu⟩, .int_tuple z t ht hu, .int_tuple z t ht hu, .int_tuple z t ht hu⟩
  | str z => obtain ⟨t, rfl⟩ := rv; exact ⟨⟨.tuple_str z t ht hu, .tuple_str z t ht hu, .tuple_str z t ht hu⟩, .str_tuple z t ht hu, .str_tuple z t ht hu, .str_tuple z t ht hu⟩
  | _ => cases fb
theorem sT {A : Around} {b : D} {y : V} {v : Value} {p : Addr} {its : Array Value} {K : PySem.W.Frag} (ht : s.heap.IsList p its) (hu : A.units < cLine) (rb : aH K g α H b y) (rv : RelV y v) (fb : fQ b = true) :
    (EqAt A s (.ref p) v false /\ RcAt A s (.ref p) v false /\ RcNeAt A s (.ref p) v true) /\ (EqAt A s v (.ref p) false /\ RcAt A s v (.ref p) false /\ RcNeAt A s v (.ref p) true) := by
  cases rb with
  | non => cases rv; exact ⟨⟨.list_none ht hu, .list_none ht hu, .list_none ht hu⟩, .none_list ht hu, .none_list ht hu, .none_list ht hu⟩
  | bl z => cases rv; exact ⟨⟨.list_bool z ht hu, .list_bool z ht hu, .list_bool z ht hu⟩, .bool_list z ht hu, .bool_list z ht hu, .bool_list z ht hu⟩
  | int z => obtain ⟨t, rfl⟩ := rv; exact ⟨⟨.list_int z t ht hu, .list_int z t ht hu, .list_int z t ht hu⟩, .int_list z t ht hu, .int_list z t ht hu, .int_list z t ht hu⟩
  | str z => obtain ⟨t, rfl⟩ := rv; exact ⟨⟨.list_str z t ht hu, .list_str z t ht hu, .list_str z t ht hu⟩, .str_list z t ht hu, .str_list z t ht hu, .str_list z t ht hu⟩
  | _ => cases fb
theorem tP {A : Around} {k : Nat} {ds es : List D} {vs us : List V} {its jts : List Value} {c : Bool} (r : aW X.K g α H h)
    (ih : ∀ (a b : D) (x y : V) (u v : Value) (c : Bool), aH X.K g α H a x -> aH X.K g α H b y -> RelV x u -> RelV y v -> eqD k h a b = some c -> EqAt A.in1 s u v c)
    (rs : av X.K g α H ds vs) (rt : av X.K g α H es us) (rv : Vals vs its) (ru : Vals us jts) (e : eqL (eqD k h) ds es = some c) :
    (∀ j (h1 : j < its.toArray.size) (h2 : j < jts.toArray.size), EqAt A.in1 s its.toArray[j] jts.toArray[j] ((fun (j : Nat) => (eqD k h (ds.getD j .non) (es.getD j .non)).getD false) j)) ∧
    c = ((List.range (min its.toArray.size jts.toArray.size)).all (fun (j : Nat) => (eqD k h (ds.getD j .non) (es.getD j .non)).getD false) && its.toArray.size == jts.toArray.size) := by
  obtain ⟨q1, q2⟩ := vk e
  have l1 : its.toArray.size = ds.length := by rw [List.size_toArray, <- rv.length, rs.length]
  have l2 : jts.toArray.size = es.length := by rw [List.size_toArray, <- ru.length, rt.length]
  refine ⟨fun j h1 h2 => ?_, by rw [l1, l2]; exact q2⟩
  have hd : ds[j]? = some (ds.getD j .non) := by rw [List.getD_eq_getElem?_getD, List.getElem?_eq_getElem (by omega)]; rfl
  have he : es[j]? = some (es.getD j .non) := by rw [List.getD_eq_getElem?_getD, List.getElem?_eq_getElem (by omega)]; rfl
  obtain ⟨b, hb⟩ := q1 j _ _ hd he
  obtain ⟨x, hx, rx⟩ := rs.get hd
  obtain ⟨y, hy, ry⟩ := rt.get he
  obtain ⟨u, hu, rxu⟩ := rv.get hx
  obtain ⟨v, hv, ryv⟩ := ru.get hy
  have eu : its.toArray[j] = u := by
    have := List.getElem?_eq_getElem (l := its) (i := j) (by simpa using h1)
    rw [hu] at this
    simpa using (Option.some.inj this).symm
  have ev : jts.toArray[j] = v := by
    have := List.getElem?_eq_getElem (l := jts) (i := j) (by simpa using h2)
    rw [hv] at this
    simpa using (Option.some.inj this).symm
  rw [eu, ev]
  show EqAt A.in1 s u v ((eqD k h (ds.getD j .non) (es.getD j .non)).getD false)
  rw [hb]
  exact ih _ _ _ _ _ _ _ rx ry rxu ryv hb
theorem vK (I : Inv X pins σ H s) {p : Addr} {vs us : List V} (a : SqT X.K H p vs) (b : SqL X.K H p us) : False := by
  obtain ⟨its, r1, ⟨o, e, c, _⟩, _⟩ := I.tuple a
  obtain ⟨jts, r2, ⟨o', n', e', c', _⟩, _⟩ := I.list b
  rw [e] at e'; cases e'; rw [c] at c'; injection c' with z; exact absurd z (by decide)
theorem oN (I : Inv X pins σ H s) (r : aW X.K g α H h) : ∀ (k : Nat) (a b : D) (x : V) (c : Bool), aH X.K g α H a x -> aH X.K g α H b x -> eqD k h a b = some c -> c = true
  | 0, _, _, _, _, _, _, e => by cases e
  | k + 1, a, b, x, c, ra, rb, e => by
    unfold eqD at e
    cases ea : vw a h with
    | no => simp [ea] at e
    | fl =>
      have fa := mm ra ea
      cases eb : vw b h with
      | no => simp [ea, eb] at e
      | fl =>
        simp only [ea, eb] at e
        cases e
        have fb := mm rb eb
        cases ra with
        | non => cases rb with
          | non => rfl
        | bl z => cases rb with
          | bl _ => simp [eqF]
        | int z => cases rb with
          | int _ => simp [eqF]
        | str z => cases rb with
          | str _ => simp [eqF]
        | _ => cases fa
      | tp ds => obtain ⟨p, vs, rfl, _⟩ := mj rb eb; cases ra <;> cases fa
      | ls ds => obtain ⟨p, vs, rfl, _⟩ := l8 r rb eb; cases ra <;> cases fa
    | tp da =>
      obtain ⟨p, va, rfl, hp, rs⟩ := mj ra ea
      cases eb : vw b h with
      | no => simp [ea, eb] at e
      | fl => have fb := mm rb eb; cases rb <;> cases fb
      | tp db =>
        simp only [ea, eb] at e
        obtain ⟨q, vb, hpq, hq, rt⟩ := mj rb eb
        cases hpq
        have := I.g_ hp hq
        subst this
        exact oK (fun a b x c => oN I r k a b x c) rs rt e
      | ls db =>
        obtain ⟨q, vb, hpq, hq, rt⟩ := l8 r rb eb
        cases hpq
        exact (vK I hp hq).elim
    | ls da =>
      obtain ⟨p, va, rfl, hp, rs⟩ := l8 r ra ea
      cases eb : vw b h with
      | no => simp [ea, eb] at e
      | fl => have fb := mm rb eb; cases rb <;> cases fb
      | tp db =>
        obtain ⟨q, vb, hpq, hq, rt⟩ := mj rb eb
        cases hpq
        exact (vK I hq hp).elim
      | ls db =>
        simp only [ea, eb] at e
        obtain ⟨q, vb, hpq, hq, rt⟩ := l8 r rb eb
        cases hpq
        have := I.jg hp hq
        subst this
        rw [if_pos (by rw [rs.length, rt.length])] at e
        exact oK (fun a b x c => oN I r k a b x c) rs rt e
theorem uU (I : Inv X pins σ H s) (r : aW X.K g α H h) : ∀ (k : Nat) (A : Around) (a b : D) (x y : V) (u v : Value) (c : Bool), A.units + k < cLine -> aH X.K g α H a x -> aH X.K g α H b y -> RelV x u -> RelV y v -> eqD k h a b = some c →
    EqAt A s u v c /\ RcAt A s u v c /\ RcNeAt A s u v (!c)
  | 0, _, _, _, _, _, _, _, _, _, _, _, _, _, e => by cases e
  | k + 1, A, a, b, x, y, u, v, c, hu, ra, rb, ru, rv, e => by
    have hu0 : A.units < cLine := by omega
    have ih : ∀ (a b : D) (x y : V) (u v : Value) (c : Bool), aH X.K g α H a x -> aH X.K g α H b y -> RelV x u -> RelV y v -> eqD k h a b = some c -> EqAt A.in1 s u v c :=
      fun a b x y u v c h1 h2 h3 h4 h5 => (uU I r k A.in1 a b x y u v c (by show A.units + 1 + k < _; omega) h1 h2 h3 h4 h5).1
    have whole := fun x ra rb => oN I r (k + 1) a b x c ra rb e
    unfold eqD at e
    cases ea : vw a h with
    | no => simp [ea] at e
    | fl =>
      have fa := mm ra ea
      cases eb : vw b h with
      | no => simp [ea, eb] at e
      | fl => simp only [ea, eb] at e; cases e; exact A0 ra rb ru rv fa (mm rb eb)
      | tp db =>
        simp only [ea, eb] at e; cases e
        obtain ⟨q, vb, rfl, hq, rt⟩ := mj rb eb
        cases rv
        obtain ⟨its, r1, ht, _⟩ := I.tuple hq
        exact (t9 ht hu0 ra ru fa).2
      | ls db =>
        simp only [ea, eb] at e; cases e
        obtain ⟨q, vb, rfl, hq, rt⟩ := l8 r rb eb
        cases rv
        obtain ⟨its, r1, ht, _⟩ := I.list hq
        exact (sT ht.isList hu0 ra ru fa).2
    | tp da =>
      obtain ⟨p, va, rfl, hp, rs⟩ := mj ra ea
      cases ru
      obtain ⟨its, r1, ht, _⟩ := I.tuple hp
      cases eb : vw b h with
      | no => simp [ea, eb] at e
      | fl => simp only [ea, eb] at e; cases e; exact (t9 ht hu0 rb rv (mm rb eb)).1
      | tp db =>
        simp only [ea, eb] at e
        obtain ⟨q, vb, rfl, hq, rt⟩ := mj rb eb
        cases rv
        obtain ⟨jts, r2, ht2, _⟩ := I.tuple hq
        obtain ⟨h1, h2⟩ := tP r ih rs rt r1 r2 e
        have rc : RcAt A s (.ref p) (.ref q) c := by rw [h2]; exact RcAt.tuples ht ht2 hu0 h1
        refine ⟨?_, rc, by rw [h2]; exact RcNeAt.tuples ht ht2 hu0 h1⟩
        by_cases hpq : p = q
        · subst hpq
          rw [whole _ ra rb]
          exact .same _
        · exact .of_refs hpq rc
      | ls db =>
        simp only [ea, eb] at e; cases e
        obtain ⟨q, vb, rfl, hq, rt⟩ := l8 r rb eb
        cases rv
        obtain ⟨jts, r2, ht2, _⟩ := I.list hq
        exact ⟨.tuple_list ht ht2.isList hu0, .tuple_list ht ht2.isList hu0, .tuple_list ht ht2.isList hu0⟩
    | ls da =>
      obtain ⟨p, va, rfl, hp, rs⟩ := l8 r ra ea
      cases ru
      obtain ⟨its, r1, ht', _⟩ := I.list hp
      have ht := ht'.isList
      cases eb : vw b h with
      | no => simp [ea, eb] at e
      | fl => simp only [ea, eb] at e; cases e; exact (sT ht hu0 rb rv (mm rb eb)).1
      | tp db =>
        simp only [ea, eb] at e; cases e
        obtain ⟨q, vb, rfl, hq, rt⟩ := mj rb eb
        cases rv
        obtain ⟨jts, r2, ht2, _⟩ := I.tuple hq
        exact ⟨.list_tuple ht ht2 hu0, .list_tuple ht ht2 hu0, .list_tuple ht ht2 hu0⟩
      | ls db =>
        simp only [ea, eb] at e
        obtain ⟨q, vb, rfl, hq, rt⟩ := l8 r rb eb
        cases rv
        obtain ⟨jts, r2, ht2', _⟩ := I.list hq
        have ht2 := ht2'.isList
        have l1 : its.toArray.size = da.length := by rw [List.size_toArray, <- r1.length, rs.length]
        have l2 : jts.toArray.size = db.length := by rw [List.size_toArray, <- r2.length, rt.length]
        have fin : RcAt A s (.ref p) (.ref q) c /\ RcNeAt A s (.ref p) (.ref q) (!c) := by
          by_cases hl : da.length = db.length
          · rw [if_pos hl] at e
            obtain ⟨h1, h2⟩ := tP r ih rs rt r1 r2 e
            have hsz : its.toArray.size = jts.toArray.size := by omega
            have h2' : c = (List.range its.toArray.size).all (fun (j : Nat) => (eqD k h (da.getD j .non) (db.getD j .non)).getD false) := by
              rw [h2, <- hsz, Nat.min_self]; simp
            exact ⟨by rw [h2']; exact RcAt.lists ht ht2 hsz hu0 h1, by rw [h2']; exact RcNeAt.lists ht ht2 hsz hu0 h1⟩
          · rw [if_neg hl] at e
            have e2 : c = false := (Option.some.inj e).symm
            have hsz : (its.toArray.size != jts.toArray.size) = true := by
              rw [l1, l2]; simpa using hl
            rw [e2]
            exact ⟨RcAt.lists_lengths ht ht2 hsz hu0, RcNeAt.lists_lengths ht ht2 hsz hu0⟩
        refine ⟨?_, fin⟩
        by_cases hpq : p = q
        · subst hpq
          rw [whole _ ra rb]
          exact .same _
        · exact .of_refs hpq fin.1
noncomputable abbrev eqN : Nat := 12
noncomputable def dEq : D -> D -> Hh -> R D := fun a b h => match eqD eqN h a b with
  | some c => .ok (.bl c) h
  | none => .bad
noncomputable def dNe : D -> D -> Hh -> R D := fun a b h => match eqD eqN h a b with
  | some c => .ok (.bl (!c)) h
  | none => .bad
noncomputable def zR (K : PySem.W.Frag) (g : GG) (neg : Bool) : R2 := fun x y H Q => ∃ α h a b c, aW K g α H h /\ aH K g α H a x /\ aH K g α H b y /\ eqD eqN h a b = some c /\ Q (.bl (if neg then !c else c)) H
theorem oR (hu : X.A.units + 64 < cLine) : OpR X (compareOp .Eq) (zR X.K g false) := by
  intro pins s σ H x y v u Q I rx ry ⟨α, h, a, b, c, r, ra, rb, e, q⟩
  exact (uU I r eqN X.A a b x y v u c (by show X.A.units + 12 < _; omega) ra rb rx ry e).2.1 _ _ _ _ ⟨.bl c, H, I, rfl, q⟩
theorem j8 (hu : X.A.units + 64 < cLine) : OpR X (compareOp .NotEq) (zR X.K g true) := by
  intro pins s σ H x y v u Q I rx ry ⟨α, h, a, b, c, r, ra, rb, e, q⟩
  exact (uU I r eqN X.A a b x y v u c (by show X.A.units + 12 < _; omega) ra rb rx ry e).2.2 _ _ _ _ ⟨.bl (!c), H, I, rfl, q⟩
theorem tE {ε : EE} {K : PySem.W.Frag} : eD K g ε dEq (zR K g false) := by
  intro α H h a b x y Q r ra rb w
  unfold dEq at w
  cases e : eqD eqN h a b with
  | none => simp only [e] at w; exact w.elim
  | some c => simp only [e] at w; exact ⟨α, h, a, b, c, r, ra, rb, e, aR.now w r (.bl _)⟩
theorem nr {ε : EE} {K : PySem.W.Frag} : eD K g ε dNe (zR K g true) := by
  intro α H h a b x y Q r ra rb w
  unfold dNe at w
  cases e : eqD eqN h a b with
  | none => simp only [e] at w; exact w.elim
  | some c => simp only [e] at w; exact ⟨α, h, a, b, c, r, ra, rb, e, aR.now w r (.bl _)⟩
end
section
variable {X : Cx} {K : PySem.W.Frag} {g : GG} {ε : EE}
noncomputable def ck : List D -> Hh -> R D := fun ds h => match ds with
  | [.tup ds] => .ok (.int ds.length) h
  | [.frl ds] => .ok (.int ds.length) h
  | [.scr ds] => .ok (.int ds.length) h
  | [.str x] => if x.length <= 1000000 then .ok (.int x.length) h else .bad
  | [.ref n] => match h[n]? with
    | some (.lst ds) => .ok (.int ds.length) h
    | some (.set k) => .ok (.int k.length) h
    | _ => .bad
  | _ => .bad
noncomputable abbrev BI (K : PySem.W.Frag) : List V -> Hp -> VK -> Prop := fun xs H Q => (∃ p ys, xs = [.ref p] /\ (SqL K H p ys \/ SqT K H p ys) /\ Q (.int ys.length) H) \/ (∃ p S n, xs = [.ref p] /\ H p = some (.set S n) /\ Q (.int n) H) \/ ∃ z, xs = [.str z] /\ z.length <= sizeLine /\ Q (.int z.length) H
theorem bI : dj X (.builtin "len") (BI X.K) := dj.or qv (dj.or pD qZ)
theorem nZ {α : List Addr} {H : Hp} {h : Hh} {ds : List D} {vs : List V} {f : List D -> Hh -> R D} {Q : VK} (hf : ∀ d e r h, f (d :: e :: r) h = .bad) (hf0 : ∀ h, f [] h = .bad) (rs : av K g α H ds vs) (w : WQ K g ε α H (f ds h) (aR K g α H Q)) : ∃ d v, ds = [d] /\ vs = [v] /\ aH K g α H d v := by
  cases rs with
  | nil => rw [hf0] at w; exact w.elim
  | cons r t =>
    cases t with
    | nil => exact ⟨_, _, rfl, rfl, r⟩
    | cons _ _ => rw [hf] at w; exact w.elim
theorem bN : rj K g ε ck (BI K) := by
  intro α H h a x Q r ra w
  obtain ⟨d, v, rfl, rfl, rd⟩ := nZ (f := ck) (fun d _ _ _ => by cases d <;> rfl) (fun _ => rfl) ra w
  unfold ck at w
  cases rd with
  | tup hp rs => exact .inl ⟨_, _, rfl, .inr (SqT.of hp), aR.now w r (by rw [<- rs.length]; exact .int _)⟩
  | frl hp rs => exact .inl ⟨_, _, rfl, .inl hp.sq, aR.now w r (by rw [<- rs.length]; exact .int _)⟩
  | scr hp rs => exact .inl ⟨_, _, rfl, .inl hp.sq, aR.now w r (by rw [<- rs.length]; exact .int _)⟩
  | str z =>
    obtain ⟨hl, w⟩ := WQ.gz w
    exact .inr (.inr ⟨z, rfl, iJ hl, aR.now w r (.int _)⟩)
  | @ref n p hp =>
    simp only at w
    cases e : h[n]? with
    | none => rw [e] at w; exact w.elim
    | some o =>
      rw [e] at w
      have q := r.here n p o hp e
      cases o with
      | lst ds => obtain ⟨vs, hv, rs⟩ := q; exact .inl ⟨p, vs, rfl, .inl (SqL.of hv), aR.now w r (by rw [<- rs.length]; exact .int _)⟩
      | set k => exact .inr (.inl ⟨p, _, _, rfl, q, aR.now w r (.int _)⟩)
      | dic k => exact w.elim
      | dit k => exact w.elim
  | _ => exact w.elim
noncomputable def ka : List D -> Hh -> R D := fun ds h => match ds with
  | [.tup ds] => .ok (.tup ds) h
  | [.frl ds] => .ok (.tup ds) h
  | [.ref n] => match aF h n with
    | some ds => .ok (.tup ds) h
    | none => .bad
  | _ => .bad
theorem oE : rj K g ε ka (fun xs H Q => ∃ p ys, xs = [.ref p] /\ ((SqL K H p ys /\ ∀ l, H l = none -> Q (.ref l) (upd H l (.tup ys))) \/ (SqT K H p ys /\ Q (.ref p) H))) := by
  intro α H h a x Q r ra w
  obtain ⟨d, v, rfl, rfl, rd⟩ := nZ (f := ka) (fun d _ _ _ => by cases d <;> rfl) (fun _ => rfl) ra w
  unfold ka at w
  cases rd with
  | tup hp rs => exact ⟨_, _, rfl, .inr ⟨SqT.of hp, aR.now w r (.tup hp rs)⟩⟩
  | frl hp rs => exact ⟨_, _, rfl, .inl ⟨hp.sq, fun l hl => aR.tup w r rs hl⟩⟩
  | @ref n p hp =>
    simp only at w
    cases e : aF h n with
    | none => rw [e] at w; exact w.elim
    | some ds =>
      rw [e] at w
      obtain ⟨vs, hv, rs⟩ := r.lst e hp
      exact ⟨p, vs, rfl, .inl ⟨SqL.of hv, fun l hl => aR.tup w r rs hl⟩⟩
  | _ => exact w.elim
noncomputable def intsOf : List D -> Option (List Int)
  | [] => some []
  | .int i :: ds => (intsOf ds).map (i :: ·)
  | _ :: _ => none
theorem jm : ∀ {ds : List D} {ns : List Int}, intsOf ds = some ns -> ds = ns.map D.int
  | [], ns, e => by cases e; rfl
  | .int i :: ds, ns, e => by
    unfold intsOf at e
    cases e1 : intsOf ds with
    | none => rw [e1] at e; cases e
    | some ms => rw [e1] at e; cases e; rw [jm e1]; rfl
  | .non :: _, _, e => by cases e
  | .bl _ :: _, _, e => by cases e
  | .str _ :: _, _, e => by cases e
  | .tup _ :: _, _, e => by cases e
  | .frl _ :: _, _, e => by cases e
  | .ref _ :: _, _, e => by cases e
  | .fn _ :: _, _, e => by cases e
  | .edic :: _, _, e => by cases e
  | .exc _ _ :: _, _, e => by cases e
  | .clo _ _ :: _, _, e => by cases e
  | .scr _ :: _, _, e => by cases e
theorem j6 : ∀ (ns : List Int), intsOf (ns.map D.int) = some ns
  | [] => rfl
  | n :: r => by rw [List.map_cons, intsOf, j6 r]; rfl
noncomputable def uA : List D -> Hh -> R D := fun ds h => match ds with
  | [.tup ds] => match intsOf ds with
    | some ns => if ns.length <= 4000 then .ok (.ref h.length) (h ++ [.set (unl ns)]) else .bad
    | none => .bad
  | _ => .bad
theorem zl : rj K g ε uA (fun vs H Q => ∃ p ns, vs = [.ref p] /\ SqT K H p (ns.map V.int) /\ ns.length + 1 < scanBound /\ ∀ l, H l = none -> Q (.ref l) (upd H l (.set (fun k => (unl ns).any (· == k)) (unl ns).length))) := by
  intro α H h a x Q r ra w
  obtain ⟨d, v, rfl, rfl, rd⟩ := nZ (f := uA) (fun d _ _ _ => by cases d <;> rfl) (fun _ => rfl) ra w
  unfold uA at w
  cases rd with
  | tup hp rs =>
    simp only at w
    cases e : intsOf _ with
    | none => rw [e] at w; exact w.elim
    | some ns =>
      rw [e] at w
      obtain ⟨hl, w⟩ := WQ.gz w
      have e2 := jm e
      subst e2
      have e3 := rs.yU
      subst e3
      refine ⟨_, ns, rfl, SqT.of hp, by show ns.length + 1 < 4096; omega, fun l hn => ?_⟩
      refine (show aR K g α H Q _ _ from w) _ _ (α ++ [l]) (Ext.push hn) (r.push hn bj) (.ref ?_)
      rw [<- r.len, List.getElem?_append_right (Nat.le_refl _)]; simp
  | _ => exact w.elim
noncomputable def xP : List D -> Hh -> R D := fun ds h => match ds with
  | [.int i, .int j] => .ok (.int (if j > i then j else i)) h
  | _ => .bad
theorem yD {α : List Addr} {H : Hp} {h : Hh} {ds : List D} {vs : List V} {t : Int -> Int -> Int} {Q : VK} (r : aW K g α H h) (rs : av K g α H ds vs) (w : WQ K g ε α H (match ds with | [.int i, .int j] => .ok (.int (t i j)) h | _ => .bad) (aR K g α H Q)) : ∃ i j, vs = [.int i, .int j] /\ Q (.int (t i j)) H := by
  split at w
  · cases rs with
    | cons r1 t1 =>
      cases r1
      cases t1 with
      | cons r2 t2 =>
        cases r2
        cases t2
        exact ⟨_, _, rfl, aR.now w r (.int _)⟩
  · exact w.elim
theorem Ae : rj K g ε xP (fun xs H Q => ∃ i j, xs = [.int i, .int j] /\ Q (.int (if j > i then j else i)) H) := fun α H h a x Q r ra w => yD (t := fun i j => if j > i then j else i) r ra w
noncomputable def xF : List D -> Hh -> R D := fun ds h => match ds with
  | [.int i] => .ok (.int i) h
  | [.bl b] => .ok (.int (if b then 1 else 0)) h
  | _ => .bad
theorem Cm : rj K g ε xF (fun xs H Q => (∃ i, xs = [.int i] /\ Q (.int i) H) \/ ∃ k, xs = [.bl k] /\ Q (.int (if k then 1 else 0)) H) := by
  intro α H h a x Q r ra w
  obtain ⟨d, v, rfl, rfl, rd⟩ := nZ (f := xF) (fun d _ _ _ => by cases d <;> rfl) (fun _ => rfl) ra w
  unfold xF at w
  cases rd with
  | int i => exact .inl ⟨i, rfl, aR.now w r (.int _)⟩
  | bl b => exact .inr ⟨b, rfl, aR.now w r (.int _)⟩
  | _ => exact w.elim
noncomputable def tyD (d : D) (h : Hh) : Option String := match d with
  | .non => some "NoneType"
  | .bl _ => some "bool"
  | .int _ => some "int"
  | .str _ => some "str"
  | .tup _ => some "tuple"
  | .frl _ => some "list"
  | .edic => some "dict"
  | .ref n => match h[n]? with
    | some (.lst _) => some "list"
    | some (.dic _) => some "dict"
    | some (.dit _) => some "dict"
    | _ => none
  | _ => none
noncomputable def vC (t n : String) : Option Bool :=
  if n = "int" then (if t = "int" then some true else if t = "bool" then some true else if t = "NoneType" \/ t = "str" \/ t = "tuple" \/ t = "list" \/ t = "dict" then some false else none)
  else if n = "bool" \/ n = "tuple" \/ n = "list" \/ n = "str" then (if t = n then some true else if t = "int" \/ t = "bool" \/ t = "NoneType" \/ t = "str" \/ t = "tuple" \/ t = "list" \/ t = "dict" then some false else none)
  else none
noncomputable def qS (n : String) : D -> Hh -> R D := fun d h => match tyD d h with
  | some t => match vC t n with
    | some b => .ok (.bl b) h
    | none => .bad
  | none => .bad
theorem Du {α : List Addr} {H : Hp} {h : Hh} {d : D} {v : V} {t : String} (r : aW K g α H h) (rd : aH K g α H d v) (e : tyD d h = some t) : km K H v (.type t) := by
  unfold tyD at e
  cases rd with
  | non => cases e; exact .non
  | bl b => cases e; exact .bl b
  | int i => cases e; exact .int i
  | str i => cases e; exact .str i
  | tup hp rs => cases e; exact .tup hp
  | frl hp rs => cases e; obtain ⟨o, hp⟩ := hp; exact .frz hp
  | edic hp => cases e; exact .gO hp
  | @ref n p hp =>
    simp only at e
    cases eo : h[n]? with
    | none => rw [eo] at e; cases e
    | some o =>
      rw [eo] at e
      have q := r.here n p o hp eo
      cases o with
      | lst ds => cases e; obtain ⟨vs, hv, _⟩ := q; exact .lst hv
      | set k => cases e
      | dic k => cases e; obtain ⟨vs, hv, _⟩ := q; exact .dK hv
      | dit k => cases e; obtain ⟨vs, hv, _⟩ := q; exact .dT hv
  | _ => cases e
theorem Ac (K : PySem.W.Frag) : PySem.W.kitOne K (.type "int") (.type "int") = some true /\ PySem.W.kitOne K (.type "bool") (.type "int") = some true /\ PySem.W.kitOne K (.type "NoneType") (.type "int") = some false /\ PySem.W.kitOne K (.type "str") (.type "int") = some false
    /\ PySem.W.kitOne K (.type "tuple") (.type "int") = some false /\ PySem.W.kitOne K (.type "list") (.type "int") = some false /\ PySem.W.kitOne K (.type "dict") (.type "int") = some false := ⟨rfl, rfl, rfl, rfl, rfl, rfl, rfl⟩
theorem xA (K : PySem.W.Frag) : PySem.W.kitOne K (.type "int") (.type "bool") = some false /\ PySem.W.kitOne K (.type "bool") (.type "bool") = some true /\ PySem.W.kitOne K (.type "NoneType") (.type "bool") = some false /\ PySem.W.kitOne K (.type "str") (.type "bool") = some false
    /\ PySem.W.kitOne K (.type "tuple") (.type "bool") = some false /\ PySem.W.kitOne K (.type "list") (.type "bool") = some false /\ PySem.W.kitOne K (.type "dict") (.type "bool") = some false := ⟨rfl, rfl, rfl, rfl, rfl, rfl, rfl⟩
theorem kit_tuple (K : PySem.W.Frag) : PySem.W.kitOne K (.type "int") (.type "tuple") = some false /\ PySem.W.kitOne K (.type "bool") (.type "tuple") = some false /\ PySem.W.kitOne K (.type "NoneType") (.type "tuple") = some false /\ PySem.W.kitOne K (.type "str") (.type "tuple") = some false
    /\ PySem.W.kitOne K (.type "tuple") (.type "tuple") = some true /\ PySem.W.kitOne K (.type "list") (.type "tuple") = some false /\ PySem.W.kitOne K (.type "dict") (.type "tuple") = some false := ⟨rfl, rfl, rfl, rfl, rfl, rfl, rfl⟩
theorem yL (K : PySem.W.Frag) : PySem.W.kitOne K (.type "int") (.type "list") = some false /\ PySem.W.kitOne K (.type "bool") (.type "list") = some false /\ PySem.W.kitOne K (.type "NoneType") (.type "list") = some false /\ PySem.W.kitOne K (.type "str") (.type "list") = some false
    /\ PySem.W.kitOne K (.type "tuple") (.type "list") = some false /\ PySem.W.kitOne K (.type "list") (.type "list") = some true /\ PySem.W.kitOne K (.type "dict") (.type "list") = some false := ⟨rfl, rfl, rfl, rfl, rfl, rfl, rfl⟩
theorem zJ (K : PySem.W.Frag) : PySem.W.kitOne K (.type "int") (.type "str") = some false /\ PySem.W.kitOne K (.type "bool") (.type "str") = some false /\ PySem.W.kitOne K (.type "NoneType") (.type "str") = some false /\ PySem.W.kitOne K (.type "str") (.type "str") = some true
    /\ PySem.W.kitOne K (.type "tuple") (.type "str") = some false /\ PySem.W.kitOne K (.type "list") (.type "str") = some false /\ PySem.W.kitOne K (.type "dict") (.type "str") = some false := ⟨rfl, rfl, rfl, rfl, rfl, rfl, rfl⟩
theorem Cf {t n : String} {b : Bool} (e : vC t n = some b) : PySem.W.kitOne K (.type t) (.type n) = some b := by
  unfold vC at e
  obtain ⟨a1, a2, a3, a4, a5, a6, a7⟩ := Ac K
  obtain ⟨b1, b2, b3, b4, b5, b6, b7⟩ := xA K
  obtain ⟨c1, c2, c3, c4, c5, c6, c7⟩ := kit_tuple K
  obtain ⟨d1, d2, d3, d4, d5, d6, d7⟩ := yL K
  obtain ⟨e1, e2, e3, e4, e5, e6, e7⟩ := zJ K
  split at e
  · rename_i hn; subst hn
    split at e
    · rename_i h; subst h; cases e; exact a1
    · split at e
      · rename_i h; subst h; cases e; exact a2
      · split at e
        · rename_i h; cases e; rcases h with rfl | rfl | rfl | rfl | rfl <;> assumption
        · cases e
  · split at e
    · rename_i hn
      split at e
      · rename_i h; subst h; cases e; rcases hn with rfl | rfl | rfl | rfl <;> assumption
      · rename_i hne
        split at e
        · rename_i h; cases e; rcases hn with rfl | rfl | rfl | rfl <;> rcases h with rfl | rfl | rfl | rfl | rfl | rfl | rfl <;> first | assumption | exact absurd rfl hne
        · cases e
    · cases e
theorem rl {e : Expr} {me : ME} {n : String} {x : Str} {p1 p2 pos : Pos} (he : PE X e (tM X.K g ε me)) (hg : Gl X "isinstance") (hm : X.mg "isinstance" = none) (hg2 : Gl X x) (hm2 : X.mg x = none) (hb : bootBuiltins x = some (.type n)) (hn : x ≠ "__name__" := by decide) (hd : (x == ("__debug__" : Str)) = false := by decide)
    (hs1 : starEach [e, .Name x p2] X.env = (false, eval e X.env) :: starEach [.Name x p2] X.env := by rfl) (hs2 : starEach [.Name x p2] X.env = [(false, eval (.Name x p2) X.env)] := by rfl) (hpl : (backTo pos (starEach [.Name x p2] X.env)).any (·.1) = false := by rfl) :
    PE X (.Call (.Name "isinstance" p1) [e, .Name x p2] [] pos) (tM X.K g ε (cUn (qS n) me)) :=
  PE.imp (t_ tV hg hm PyProof.Rows.boot_isinstance (k8 he (k8 (zO (v := .ty n) hg2 hm2 hb rfl hn hd) r6 hs2) hs1) (by decide) (by decide) hs1 hpl) fun σ H Q ⟨α, env, h, s, w⟩ => tM.use s w.bind fun d1 h1 v1 H1 α1 e1 s1 r1 w1 => by
    unfold qS at w1
    cases et : tyD d1 h1 with
    | none => simp only [et] at w1; exact w1.elim
    | some t =>
      simp only [et] at w1
      cases es : vC t n with
      | none => simp only [es] at w1; exact w1.elim
      | some b =>
        simp only [es] at w1
        exact ⟨v1, .type t, n, b, rfl, Du s1.heap r1 et, Cf es, aR.now (aR.ext e1 w1) s1.heap (.bl b)⟩
end
section
variable {X : Cx} {K : PySem.W.Frag} {g : GG} {ε : EE}
noncomputable def mN : D -> Hh -> R Bool := fun d h => match d with
  | .non => .ok false h
  | .bl b => .ok b h
  | .int i => .ok (i != 0) h
  | .tup ds => .ok (!ds.isEmpty) h
  | .frl ds => .ok (!ds.isEmpty) h
  | .ref n => match aF h n with
    | some ds => .ok (!ds.isEmpty) h
    | none => .bad
  | _ => .bad
theorem av.isEmpty {α : List Addr} {H : Hp} {ds : List D} {vs : List V} (r : av K g α H ds vs) : ds.isEmpty = vs.isEmpty := by cases r <;> rfl
theorem j4 : Ew K g ε mN (fun x H Q => ∃ k, AG K x H k /\ Q k H) := by
  intro α H h a x Q r ra w
  unfold mN at w
  have now : ∀ {b : Bool}, l9 K g α H Q b h -> Q b H := fun p => p H α Ext.refl r
  cases ra with
  | non => exact ⟨false, rfl, now w⟩
  | bl b => exact ⟨b, rfl, now w⟩
  | int i => exact ⟨_, rfl, now w⟩
  | tup hp rs => exact ⟨_, .inr (.inl ⟨_, SqT.of hp, rfl⟩), now (by rw [<- rs.isEmpty]; exact w)⟩
  | frl hp rs => exact ⟨_, .inl ⟨_, hp.sq, rfl⟩, now (by rw [<- rs.isEmpty]; exact w)⟩
  | @ref n p hp =>
    simp only at w
    cases e : aF h n with
    | none => rw [e] at w; exact w.elim
    | some ds =>
      rw [e] at w
      obtain ⟨vs, hv, rs⟩ := r.lst e hp
      exact ⟨_, .inl ⟨vs, SqL.of hv, rfl⟩, now (by rw [<- rs.isEmpty]; exact w)⟩
  | _ => exact w.elim
theorem xv {α : List Addr} {H : Hp} {d : D} {v : V} (r : aH K g α H d v) (f : fQ d = true) : jP v = true := by
  cases r <;> first | rfl | cases f
theorem EJ {α : List Addr} {H : Hp} {d e : D} {v u : V} (r : aH K g α H d v) (q : aH K g α H e u) (f : fQ d = true) (f' : fQ e = true) : eqF d e = eqV v u := by
  cases r <;> first | (cases f; done) | (cases q <;> first | rfl | cases f')
theorem BH {α : List Addr} {H : Hp} : ∀ {ds : List D} {vs : List V}, av K g α H ds vs -> ds.all fQ = true -> vs.all jP = true
  | _, _, .nil, _ => rfl
  | _, _, .cons r t, f => by
    rw [List.all_cons, Bool.and_eq_true] at f ⊢
    exact ⟨xv r f.1, BH t f.2⟩
theorem Bx {α : List Addr} {H : Hp} {e : D} {u : V} (q : aH K g α H e u) (f' : fQ e = true) : ∀ {ds : List D} {vs : List V}, av K g α H ds vs -> ds.all fQ = true -> (ds.any fun d => eqF d e) = vs.any fun y => eqV y u
  | _, _, .nil, _ => rfl
  | _, _, .cons r t, f => by
    rw [List.all_cons, Bool.and_eq_true] at f
    rw [List.any_cons, List.any_cons, EJ r q f.1 f', Bx q f' t f.2]
noncomputable def dIn (neg : Bool) : D -> D -> Hh -> R D := fun a b h => match iN b h with
  | some ds => if fQ a = true /\ ds.all fQ = true then .ok (.bl (if neg then !(ds.any fun d => eqF d a) else ds.any fun d => eqF d a)) h else .bad
  | none => .bad
theorem BJ {neg : Bool} : eD K g ε (dIn neg) (rIn K neg) := by
  intro α H h a b x y Q r ra rb w
  unfold dIn at w
  cases e : iN b h with
  | none => rw [e] at w; exact w.elim
  | some ds =>
    rw [e] at w
    obtain ⟨p, vs, rfl, hq, rs⟩ := rL r rb e
    obtain ⟨⟨f1, f2⟩, w⟩ := WQ.gz w
    refine ⟨p, vs, rfl, hq, xv ra f1, BH rs f2, ?_⟩
    have e2 : (ds.any fun d => eqF d a) = inV x vs := Bx ra f1 rs f2
    rw [<- e2]
    exact aR.now w r (.bl _)
noncomputable def wa : List D -> Option (List D)
  | [.int j] => if j.natAbs <= 1000000 then some (cA 0 j.toNat) else none
  | [.int i, .int j] => if (i.natAbs <= 1000000 /\ j.natAbs <= 1000000) /\ (j - i).toNat <= 1000000 then some (cA i (j - i).toNat) else none
  | _ => none
noncomputable def lH (nl : NL) : List D -> Hh -> R D := fun ds h => match wa ds with
  | some xs => nl xs h
  | none => .bad
theorem x8 (lo : Int) (n : Nat) {α : List Addr} {H : Hp} : av K g α H (cA lo n) ((sQ lo 1 n).map V.int) := by
  have e : cA lo n = (sQ lo 1 n).map D.int := by
    unfold cA sQ
    rw [List.map_map]
    apply List.map_congr_left
    intro i _
    simp
  rw [e]
  exact av.ints _
theorem Al {α : List Addr} {H : Hp} {ds : List D} {vs : List V} {xs : List D} (r : av K g α H ds vs) (e : wa ds = some xs) :
    (∃ j, vs = [.int j] /\ vp 0 j 1 j.toNat /\ xs = cA 0 j.toNat) \/ ∃ i j, vs = [.int i, .int j] /\ vp i j 1 (j - i).toNat /\ xs = cA i (j - i).toNat := by
  unfold wa at e
  split at e
  · rename_i j
    split at e
    · rename_i hj
      cases e
      cases r with
      | cons r1 t =>
        cases r1
        cases t
        refine .inl ⟨j, rfl, ?_, rfl⟩
        have := xx (a := 0) (b := j) (by omega) (by omega) (by omega) (by omega) (by omega)
        rw [Int.sub_zero] at this
        exact this
    · cases e
  · rename_i i j
    split at e
    · rename_i hj
      cases e
      cases r with
      | cons r1 t =>
        cases r1
        cases t with
        | cons r2 t =>
          cases r2
          cases t
          exact .inr ⟨i, j, rfl, xx (by omega) (by omega) (by omega) (by omega) (by omega), rfl⟩
    · cases e
  · cases e
theorem CH : dj X (.type "range") (fun vs H Q => (∃ j, vs = [.int j] /\ ∀ p, H p = none -> Q (.ref p) (upd H p (rO p 0 j 1))) \/ ∃ i j, vs = [.int i, .int j] /\ ∀ p, H p = none -> Q (.ref p) (upd H p (rO p i j 1))) := dj.or wV xf
section
variable {e : Expr} {es : List Expr} {mr : MA} {p1 p2 q1 q2 : Pos}
theorem xS {nl : NL} [jC nl] (hc : X.calm = true) (hg : Gl X "list") (hm : X.mg "list" = none) (hg2 : Gl X "range") (hm2 : X.mg "range" = none) (ha : PA X (e :: es) (tMA X.K g ε mr))
    (he : starEach (e :: es) X.env = (false, eval e X.env) :: starEach es X.env := by rfl) (hpl : (backTo q2 (starEach es X.env)).any (·.1) = false := by rfl)
    (he1 : starEach [.Call (.Name "range" p2) (e :: es) [] q2] X.env = [(false, eval (.Call (.Name "range" p2) (e :: es) [] q2) X.env)] := by rfl) (hpl1 : (backTo q1 (starEach [] X.env)).any (·.1) = false := by rfl) :
    PE X (.Call (.Name "list" p1) [.Call (.Name "range" p2) (e :: es) [] q2] [] q1) (tM X.K g ε (ai (lH nl) mr)) :=
  PE.imp (PE.frz (lY (pA hc) hg hm PyProof.Rows.boot_list (k8 (lY CH hg2 hm2 PyProof.Rows.boot_range ha (by decide) (by decide) he hpl) r6 he1) (by decide) (by decide) he1 hpl1)) fun σ H Q ⟨α, env, h, s, w⟩ => tMA.use s w.bind fun d1 h1 v1 H1 α1 e1 s1 r1 w1 => by
    unfold lH at w1
    cases er : wa d1 with
    | none => rw [er] at w1; exact w1.elim
    | some xs =>
      rw [er] at w1
      rcases Al r1 er with ⟨j, rfl, ok, rfl⟩ | ⟨i, j, rfl, ok, rfl⟩
      · refine .inl ⟨j, rfl, fun p hp => ⟨p, 0, j, 1, j.toNat, rfl, bj, ok, fun l hl => ?_⟩⟩
        have x := Ext.fresh (K := X.K) (α := α1) (o := rO p 0 j 1) hp
        exact NL.post ((w1.post e1).post x) (s1.heap.grow hp) (x8 0 j.toNat) hl
      · refine .inr ⟨i, j, rfl, fun p hp => ⟨p, i, j, 1, (j - i).toNat, rfl, bj, ok, fun l hl => ?_⟩⟩
        have x := Ext.fresh (K := X.K) (α := α1) (o := rO p i j 1) hp
        exact NL.post ((w1.post e1).post x) (s1.heap.grow hp) (x8 i (j - i).toNat) hl
end
noncomputable def isL (d : D) (h : Hh) : Bool := match d with
  | .ref n => (aF h n).isSome
  | .frl _ => true
  | _ => false
noncomputable def jk (f : D -> List D -> Hh -> R D) (o : ME) (a : MA) : ME := fun env h => (o env h).bind fun x h1 => if isL x h1 = true then (a env h1).bind fun xs h2 => f x xs h2 else .bad
theorem zK {α : List Addr} {H : Hp} {h : Hh} {d : D} {x : V} (r : aW K g α H h) (rd : aH K g α H d x) (e : isL d h = true) : tyV K "list" x H := by
  unfold isL at e
  cases rd with
  | @ref n p hp =>
    simp only at e
    obtain ⟨ds, e⟩ := Option.isSome_iff_exists.mp e
    obtain ⟨vs, hv, _⟩ := r.lst e hp
    exact .inl ⟨rfl, vs, SqL.of hv⟩
  | frl hq rs => exact .inl ⟨rfl, _, hq.sq⟩
  | _ => cases e
theorem ya {o e : Expr} {es : List Expr} {mo : ME} {mr : MA} {name : Str} {apos cpos : Pos} {id : String} {r : V -> List V -> Hp -> VK -> Prop} {f : D -> List D -> Hh -> R D} (slot : Slot "list" name id) (hty : typeOf (.builtin id) = pure (.type "method_descriptor")) (hm : MtM X id r) (im : Cy X.K g ε f r) (ho : PE X o (tM X.K g ε mo)) (ha : PA X (e :: es) (tMA X.K g ε mr))
    (hbase : attributeBase o name X.env (eval o X.env) = eval o X.env := by rfl)
    (hfew : ((backTo cpos (starEach (e :: es) X.env)).all (fun x => !x.1) && (backToKw cpos (keywordEach [] X.env)).all (fun x => x.1.isSome)
      && decide ((e :: es).length + ([] : List Keyword).length + (if ([] : List Keyword).isEmpty then 0 else 1) < 30)) = true := by rfl)
    (hline : (apos.endLine == cpos.line) = true := by rfl) (hs : starEach (e :: es) X.env = (false, eval e X.env) :: starEach es X.env := by rfl) (hplain : (backTo cpos (starEach es X.env)).any (·.1) = false := by rfl) :
    PE X (.Call (.Attribute o name apos) (e :: es) [] cpos) (tM X.K g ε (jk f mo mr)) :=
  PE.imp (DX PySem.F.plainAttrs_list slot hty hm ho ha hbase hfew hline hs hplain) fun σ H Q ⟨α, env, h, s, w⟩ => tM.use s w.bind fun d1 h1 v1 H1 α1 e1 s1 r1 w1 => by
    obtain ⟨hl, w1⟩ := WQ.gz w1
    refine ⟨zK s1.heap r1 hl, tMA.use s1 (w1.ext e1).bind fun d2 h2 v2 H2 α2 e2 s2 r2 w2 => ?_⟩
    exact im α2 H2 h2 d1 d2 v1 v2 Q s2.heap (r1.ext e2) r2 ((w2.ext e2).mono fun _ _ _ p => aR.ext (e1.trans e2) p)
noncomputable def iG : D -> List D -> Hh -> R D := fun o ds h => match o, ds with
  | .ref n, [d] => match aF h n with
    | some xs => if xs.length < 1000000 then .ok .non (h.set n (.lst (xs ++ [d]))) else .bad
    | none => .bad
  | _, _ => .bad
theorem wz : Cy K g ε iG vf := by
  intro α H h o a y x Q r ro ra w
  unfold iG at w
  cases ro with
  | @ref n p hp =>
    cases ra with
    | nil => exact w.elim
    | @cons d v _ _ rd rr =>
      cases rr with
      | cons _ _ => exact w.elim
      | nil =>
        simp only at w
        cases e : aF h n with
        | none => rw [e] at w; exact w.elim
        | some xs =>
          rw [e] at w
          obtain ⟨hl, w⟩ := WQ.gz w
          obtain ⟨vs, hv, rs⟩ := r.lst e hp
          refine ⟨p, vs, _, rfl, rfl, hv, by rw [<- rs.length, sizeLine_eq]; omega, ?_⟩
          have x := Ext.write (o := .lst (vs ++ [v])) r hp
          exact (show aR K g α H Q _ _ from w) _ _ α x (r.write hp ⟨_, bj, (rs.append (.cons rd .nil)).ext x⟩) .non
  | _ => exact w.elim
noncomputable def tT : D -> List D -> Hh -> R D := fun o ds h => match o, ds with
  | .ref n, [.int i] => match aF h n with
    | some xs => match ixN xs.length i with
      | some k => match xs[k]? with
        | some d => if xs.length <= 1000000 then .ok d (h.set n (.lst (xs.eraseIdx k))) else .bad
        | none => .bad
      | none => .bad
    | none => .bad
  | _, _ => .bad
theorem CI : Cy K g ε tT ye := by
  intro α H h o a y x Q r ro ra w
  unfold tT at w
  cases ro with
  | @ref n p hp =>
    cases ra with
    | nil => exact w.elim
    | cons rd rr =>
      cases rr with
      | cons _ _ => cases rd <;> exact w.elim
      | nil =>
        cases rd with
        | int i =>
          simp only at w
          cases e : aF h n with
          | none => rw [e] at w; exact w.elim
          | some xs =>
            rw [e] at w
            simp only at w
            cases e2 : ixN xs.length i with
            | none => rw [e2] at w; exact w.elim
            | some k =>
              rw [e2] at w
              simp only at w
              cases e3 : xs[k]? with
              | none => rw [e3] at w; exact w.elim
              | some d =>
                rw [e3] at w
                obtain ⟨hl, w⟩ := WQ.gz w
                obtain ⟨vs, hv, rs⟩ := r.lst e hp
                obtain ⟨v, ev, rv⟩ := rs.get e3
                obtain ⟨h1, h2, h3, h4⟩ := r_ e2
                refine ⟨p, vs, i, k, v, rfl, rfl, hv, ?_, ?_, by rw [<- rs.length]; exact h1, ev, ?_⟩
                · omega
                · omega
                · have x := Ext.write (o := .lst (vs.eraseIdx k)) r hp
                  exact (show aR K g α H Q _ _ from w) _ _ α x (r.write hp ⟨_, bj, (rs.erase k).ext x⟩) (rv.ext x)
        | _ => exact w.elim
  | _ => exact w.elim
theorem l7 (ns : List Int) : ∀ k, k <= ns.length -> preSum (fun i => ns.getD i 0) k = (ns.take k).sum
  | 0, _ => by simp [preSum]
  | k + 1, h => by
    rw [preSum, l7 ns k (by omega), List.take_succ, List.sum_append]
    rw [List.getD_eq_getElem?_getD, List.getElem?_eq_getElem (by omega)]
    simp
theorem wU (hc : X.calm = true) : dj X (.builtin "sum") (fun vs H Q => ∃ (p : Addr) (ns : List Int), vs = [.ref p] /\ (SqL X.K H p (ns.map V.int) \/ SqT X.K H p (ns.map V.int)) /\ Q (.int ns.sum) H) := by
  intro pins s σ H xs us Q I r h
  obtain ⟨p, ns, rfl, hq, q⟩ := h
  obtain ⟨u, rfl, rx⟩ := vals1 r
  cases rx
  have hh : X.A.in1.handled = none := I.ok.hd hc
  have fin : ∀ {its : List Value} {o : Obj}, Vals (ns.map V.int) its -> ∀ s', Moved [s.heap.objs.size] (fun a b => b = a) { s with heap := s.heap.push o } s' -> ∀ t', EP X pins σ Q (.int (preSum (fun i => ns.getD i 0) its.toArray.size) t') s' := fun {its o} rv s' mv t' => by
    have hl : its.toArray.size = ns.length := by rw [List.size_toArray, <- rv.length, List.length_map]
    have keep : ∀ b u, s.heap.get? b = some u -> s'.heap.get? b = some u := fun b u e => mv.heap b u (by simp; exact Nat.ne_of_lt (Heap.lt_size e)) (Heap.get?_push_of_some _ e)
    have I' : Inv X pins σ H s' := by
      obtain ⟨hp, gs, dr, tk, os⟩ := s'
      have e1 : gs = s.gens := mv.gens
      have e2 : dr = s.drawn := mv.drawn
      have e3 : os = s.os := mv.os
      subst e1 e2 e3
      exact I.kept (h' := hp) (t' := tk) keep
    refine ⟨.int ns.sum, H, I', ⟨t', ?_⟩, q⟩
    rw [hl, l7 ns _ (Nat.le_refl _), List.take_length]
  have val : ∀ {its : List Value}, Vals (ns.map V.int) its -> ∀ i v, its.toArray[i]? = some v -> ∃ t : Tok, v = Value.int (ns.getD i 0) t := fun {its} rv i v e => by
    obtain ⟨x, hx, rxv⟩ := rv.get' (show its[i]? = some v by simpa using e)
    rw [List.getElem?_map] at hx
    cases en : ns[i]? with
    | none => rw [en] at hx; cases hx
    | some z =>
      rw [en] at hx
      cases hx
      obtain ⟨t, e⟩ := rxv
      exact ⟨t, by rw [List.getD_eq_getElem?_getD, en]; exact e⟩
  rcases hq with hq | hq
  · obtain ⟨its, rv, pl, hz⟩ := I.list hq
    have plt : p < s.heap.objs.size := by obtain ⟨o, e, _⟩ := pl.isList; exact Heap.lt_size e
    have hne : p ≠ s.heap.objs.size := Nat.ne_of_lt plt
    refine call_sum_walkAnyS (wpAny_pyIter_list pl.isList ?_)
    refine ⟨s.heap.objs.size, _, _, _, its.toArray.size, _, _, fun i => ns.getD i 0, rfl, (Walks.list (prog := X.prog) (w := X.w) hh s.heap.objs.size p hne its.toArray).toS, ⟨⟨_, Heap.get?_push_size _ rfl, rfl, rfl⟩, ?_⟩, fun b hb => ?_, val rv, fun s' t' mv => fin rv s' mv t'⟩
    · exact pl.isList.at fun o e => Heap.get?_push_of_some _ e
    · simp at hb
      rcases hb with rfl | rfl
      · exact Heap.lt_size (Heap.get?_push_size _ rfl)
      · exact Nat.lt_trans plt (Heap.lt_size (Heap.get?_push_size _ rfl))
  · obtain ⟨its, rv, pl, hz⟩ := I.tuple hq
    have pt : s.heap.IsTuple p its.toArray := pl
    have hne : p ≠ s.heap.objs.size := Nat.ne_of_lt pl.lt
    refine call_sum_walkAnyS (wpAny_pyIter_tuple pt ?_)
    refine ⟨s.heap.objs.size, _, _, _, its.toArray.size, _, _, fun i => ns.getD i 0, rfl, (Walks.tuple (prog := X.prog) (w := X.w) hh s.heap.objs.size p hne its.toArray).toS, ⟨⟨_, Heap.get?_push_size _ rfl, rfl, rfl⟩, ?_⟩, fun b hb => ?_, val rv, fun s' t' mv => fin rv s' mv t'⟩
    · exact pt.at fun o e => Heap.get?_push_of_some _ e
    · simp at hb
      rcases hb with rfl | rfl
      · exact Heap.lt_size (Heap.get?_push_size _ rfl)
      · exact Nat.lt_trans pl.lt (Heap.lt_size (Heap.get?_push_size _ rfl))
noncomputable def rg : List D -> Hh -> R D := fun ds h => match ds with
  | [d] => match iN d h with
    | some xs => match intsOf xs with
      | some ns => .ok (.int ns.sum) h
      | none => .bad
    | none => .bad
  | _ => .bad
theorem Cw : rj K g ε rg (fun vs H Q => ∃ (p : Addr) (ns : List Int), vs = [.ref p] /\ (SqL K H p (ns.map V.int) \/ SqT K H p (ns.map V.int)) /\ Q (.int ns.sum) H) := by
  intro α H h a x Q r ra w
  obtain ⟨d, v, rfl, rfl, rd⟩ := nZ (f := rg) (fun _ _ _ _ => rfl) (fun _ => rfl) ra w
  unfold rg at w
  simp only at w
  cases e : iN d h with
  | none => rw [e] at w; exact w.elim
  | some ds =>
    rw [e] at w
    simp only at w
    cases e2 : intsOf ds with
    | none => rw [e2] at w; exact w.elim
    | some ns =>
      rw [e2] at w
      obtain ⟨p, vs, rfl, hq, rs⟩ := rL r rd e
      have e3 := jm e2
      subst e3
      have e4 := rs.yU
      subst e4
      exact ⟨p, ns, rfl, hq, aR.now w r (.int _)⟩
noncomputable def oy : D -> D -> Hh -> R D
  | .int i, .int j, h => .ok (.int (i + j)) h
  | _, _, _ => .bad
theorem xt : eD K g ε oy (ipI fun i j => i + j) := by
  intro α H h a b x y Q r ra rb w
  unfold oy at w
  cases ra with
  | int i =>
    cases rb with
    | int j => exact ⟨i, j, rfl, rfl, aR.now w r (.int _)⟩
    | _ => exact w.elim
  | _ => exact w.elim
theorem BY : eD K g ε eT (ipI fun i j => i - j) := by
  intro α H h a b x y Q r ra rb w
  unfold eT at w
  cases ra with
  | int i =>
    cases rb with
    | int j => exact ⟨i, j, rfl, rfl, aR.now w r (.int _)⟩
    | _ => exact w.elim
  | _ => exact w.elim
end
section
variable {P : Program} {w : World} {K : PySem.W.Frag} {mg : Str -> Option Value} {base : Heap} {g : GG}
noncomputable def aI (K : PySem.W.Frag) (mg : Str -> Option Value) (x : Str) (st : Stmt) : Prop := ∃ f fd, mg x = some (.ref f) /\ Fun K x x st f fd
noncomputable def bT (K : PySem.W.Frag) (x : Str) (st : Stmt) : Prop := ∃ f fd, PySem.W.nsIn K mainGlobals x = some (some (.ref f)) /\ Fun K x x st f fd
theorem bq {x : Str} {st : Stmt} {f : Addr} {oc : Value} {od an : Option Addr} {osl : Array (Option Value)} {kV doc pm cdv ct : Value} (a : PySem.W.nsIn K mainGlobals x = some (some (.ref f)))
    (l : K.lookup f = some ⟨oc, od, .func (PySem.W.fnOf x x (iw st) (eB st) (ao st) .none kV doc pm an cdv ct), osl⟩) (c : PySem.W.codeIn K cdv x = true) (k : PySem.W.keepIn K (.ref f) = true) : bT K x st := ⟨f, _, a, y0 l c k⟩
theorem aI.of {h : Heap} {x : Str} {st : Stmt} (X : K.In h) (G : h.Ns mainGlobals mg) (d : bT K x st) : aI K mg x st :=
  let ⟨f, fd, a, F⟩ := d; ⟨f, fd, PySem.W.mg_of X G a, F⟩
noncomputable def Has (P : Program) (w : World) (K : PySem.W.Frag) (mg : Str -> Option Value) (base : Heap) (g : GG) (x : Str) (k : Nat) (ps : List Str) (m : MF) : Prop :=
  ∃ f fd, eS P w K mg base CX0 k f fd ps (spM K g ps.length m) /\ PySem.W.keepIn K (.ref f) = true /\ Binds K fd ps [] /\ mg x = some (.ref f) /\ ∃ (oc : Value) (od : Option Addr) (osl : Array (Option Value)), K.lookup f = some ⟨oc, od, .func fd, osl⟩
noncomputable def gOf (mg : Str -> Option Value) : GG := fun x => match mg x with
  | some (.ref f) => some f
  | _ => none
theorem aN {x : Str} {st : Stmt} {f : Addr} {fd : FuncData} (F : Fun K x x st f fd) : ∃ (oc : Value) (od : Option Addr) (osl : Array (Option Value)), K.lookup f = some ⟨oc, od, .func fd, osl⟩ := by
  obtain ⟨oc, od, kV, doc, pm, an, cdv, ct, osl, rfl, lk, hcd⟩ := F.ex
  exact ⟨oc, od, osl, lk⟩
theorem BQ {x : Str} {st : Stmt} {f : Addr} {fd : FuncData} {k : Nat} {ps : List Str} {m : MF} (F : Fun K x x st f fd) (hm : mg x = some (.ref f)) (h : Has P w K mg base g x k ps m) : eS P w K mg base CX0 k f fd ps (spM K g ps.length m) := by
  obtain ⟨f2, fd2, G, _, _, hm2, oc, od, osl, l2⟩ := h
  obtain ⟨oc', od', osl', l1⟩ := aN F
  rw [hm] at hm2
  cases hm2
  rw [l1] at l2
  cases l2
  exact G
end
section
variable {X : Cx} {g : GG} {ε : EE}
noncomputable def xq (i j : Nat) (m : ME) : MS := fun env h => (m env h).bind fun d h1 => (gT2 i j d env h1).bind fun e h2 => .ok (.nx e) h2
theorem DL {i j : Nat} {x y : Str} {e : Expr} {me : ME} {px py pt pos : Pos} {kt} (hc : X.calm = true) (hN : X.N.Nodup) (hi : X.N[i]? = some x) (hj : X.N[j]? = some y) (he : PE X e (tM X.K g ε me))
    (hx : Loc X.env.scope x := by first | exact Or.inl rfl | exact Or.inr rfl) (hy : Loc X.env.scope y := by first | exact Or.inl rfl | exact Or.inr rfl)
    (fx : X.fn x = true \/ X.env.scope.names.lookup x = some .local := by first | exact .inl rfl | exact .inr rfl) (fy : X.fn y = true \/ X.env.scope.names.lookup y = some .local := by first | exact .inl rfl | exact .inr rfl)
    (hs : swapsWithSole [.Tuple [.Name x px, .Name y py] kt pt] e pos.line X.env = pure false := by rfl) (hw : swappedStores [.Tuple [.Name x px, .Name y py] kt pt] e X.env = pure none := by rfl) :
    PS X (.Assign [.Tuple [.Name x px, .Name y py] kt pt] e pos) (tMS X.K g ε (xq i j me)) :=
  PS.imp (xH he (qB hc (fG (cy hN hi hx fx) (fG (cy hN hj hy fy) mX))) hs hw rfl) fun E σ H ⟨α, env, h, s, w⟩ => tM.use s w.bind fun d1 h1 v1 H1 α1 e1 s1 r1 w1 => by
    refine uy (ε := ε) α1 H1 h1 env σ d1 v1 _ s1 r1 ((w1.ext e1).bind.mono fun e' h2 _ w2 σ2 H2 α2 e2 s2 => ?_)
    exact (show cU X.K g α H E (.nx e') h2 from w2) H2 α2 (e1.trans e2) s2.heap σ2 s2.vs
end
section
variable {X : Cx} {K : PySem.W.Frag} {g : GG} {ε : EE}
noncomputable def i7 : D -> Bool
  | .non => true
  | _ => false
noncomputable def mG (neg : Bool) : D -> D -> Hh -> R D := fun a b h => match b with
  | .non => .ok (.bl (if neg then !i7 a else i7 a)) h
  | _ => .bad
theorem tH {α : List Addr} {H : Hp} {d : D} {v : V} (r : aH K g α H d v) : decide (v = .non) = i7 d := by cases r <;> first | rfl | (simp [i7])
theorem A_ : OpR X (compareOp .IsNot) (fun x y H Q => y = .non /\ Q (.bl (!decide (x = .non))) H) := z_
theorem BS : eD K g ε (mG false) (fun x y H Q => y = .non /\ Q (.bl (decide (x = .non))) H) := by
  intro α H h a b x y Q r ra rb w
  unfold mG at w
  cases rb with
  | non => exact ⟨rfl, by rw [tH ra]; exact aR.now w r (.bl _)⟩
  | _ => exact w.elim
theorem Ao : eD K g ε (mG true) (fun x y H Q => y = .non /\ Q (.bl (!decide (x = .non))) H) := by
  intro α H h a b x y Q r ra rb w
  unfold mG at w
  cases rb with
  | non => exact ⟨rfl, by rw [tH ra]; exact aR.now w r (.bl _)⟩
  | _ => exact w.elim
noncomputable def xU : D -> D -> Hh -> R D := fun a b h => match a with
  | .ref n => dIx (.ref n) b h
  | _ => .bad
noncomputable def q_ (o i v : ME) : MS := fun env h => (o env h).bind fun x h1 => (i env h1).bind fun y h2 => (xU x y h2).bind fun z h3 => (v env h3).bind fun u h4 => (oy z u h4).bind fun t h5 => (ie x y t h5).bind fun _ h6 => .ok (.nx env) h6
theorem Bm : DI X (fun x y H Q => Cu X.K x y H Q) := by
  intro pins s σ H o i ov iv Q I ro ri h
  obtain ⟨p, xs, k, z, rfl, rfl, hq, he, q⟩ := h
  cases ro
  obtain ⟨t, rfl⟩ := ri
  obtain ⟨its, r, pl, hz⟩ := I.list hq
  obtain ⟨j, h1, h2, h3, h4, h5⟩ := mU he
  obtain ⟨w, ew, rw'⟩ := r.get h2
  have hl := r.length
  have hn := jd
  have fin : EP X pins σ Q w s := ⟨z, H, I, rw', q⟩
  by_cases h0 : 0 <= k
  · have hj : k.toNat = j := by
      rw [seqIndex_of h0 h5] at h1
      exact Option.some.inj h1
    exact wpAny_getItem_list pl.isList h0 (by omega) (by rw [hj]; simpa using ew) fin
  · have hj : (k + (its.toArray.size : Int)).toNat = j := by
      rw [seqIndex_neg (by omega) h4] at h1
      rw [List.size_toArray, <- hl]
      exact Option.some.inj h1
    exact wpAny_getItem_list_neg pl.isList (by omega) (by rw [List.size_toArray] <;> omega) (by omega) (by rw [hj]; simpa using ew) fin
theorem zQ {o i e : Expr} {mo mi me : ME} {tpos pos : Pos} (ho : PE X o (tM X.K g ε mo)) (hi : PE X i (tM X.K g ε mi)) (he : PE X e (tM X.K g ε me))
    (ha : ∀ ov iv new, augStore i ov iv new = (do holding [new, ov, iv] (setItem ov iv new); release [new, ov, iv] []; pure .next) := by intros; rfl) : PS X (.AugAssign (.Subscript o i tpos) .Add e pos) (tMS X.K g ε (q_ mo mi me)) :=
  PS.imp (AL ho hi Bm he xZ set_list ha) fun E σ H ⟨α, env, h, s, w⟩ => tM.use s w.bind fun d1 h1 v1 H1 α1 e1 s1 r1 w1 => tM.use s1 (w1.ext e1).bind fun d2 h2 v2 H2 α2 e2 s2 r2 w2 => by
    have w3 := (w2.ext e2).bind
    have r1' := r1.ext e2
    unfold xU at w3
    cases r1' with
    | @ref n p hp =>
      simp only [dIx] at w3
      cases eq : iN (.ref n) h2 with
      | none => simp only [eq] at w3; exact w3.elim
      | some ds =>
        simp only [eq] at w3
        cases r2 with
        | int k =>
          cases ea : atI ds k with
          | none => simp only [ea] at w3; exact w3.elim
          | some z =>
            simp only [ea] at w3
            have w4 : WQ X.K g ε α2 H2 ((me env h2).bind _) _ := w3
            have eq' : aF h2 n = some ds := eq
            obtain ⟨vs', hv', rs'⟩ := s2.heap.lst eq' hp
            obtain ⟨v', ev', rv'⟩ := vG rs' ea
            refine ⟨p, vs', k, v', rfl, rfl, SqL.of hv', ev', tM.use s2 w4.bind fun d3 h3 v3 H3 α3 e3 s3 r3 w5 => ?_⟩
            refine xt (K := X.K) (g := g) (ε := ε) α3 H3 h3 z d3 v' v3 _ s3.heap (rv'.ext e3) r3 ((w5.ext e3).bind.mono fun t h4 _ w6 v4 H4 α4 e4 hr4 r4 => ?_)
            refine nQ (K := X.K) (g := g) (ε := ε) α4 H4 h4 (.ref n) (.int k) t (.ref p) (.int k) v4 _ hr4 (.ref ((e3.trans e4).get hp)) (.int k) r4 (((w6.ext e4)).bind.mono fun _ h5 _ w7 H5 α5 e5 hr5 => ?_)
            exact (show cU X.K g α H E (.nx env) h5 from w7) H5 α5 (e1.trans (e2.trans (e3.trans (e4.trans e5)))) hr5 _ (s3.vs.ext (e4.trans e5))
        | _ => exact w3.elim
    | _ => exact w3.elim
end
mutual
noncomputable def jB (k : Nat) : D -> Bool
  | .ref n => decide (n < k)
  | .tup ds => cz k ds
  | .frl ds => cz k ds
  | .scr ds => cz k ds
  | .clo _ ds => cz k ds
  | _ => true
noncomputable def cz (k : Nat) : List D -> Bool
  | [] => true
  | d :: ds => jB k d && cz k ds
end
noncomputable def s_ (k : Nat) : O -> Bool
  | .lst ds => cz k ds
  | .set _ => true
  | .dic kvs => cz k (kvs.map (·.2))
  | .dit kvs => cz k (kvs.map (·.2))
noncomputable def lW (f : D -> Option D) : List D -> Option (List D)
  | [] => some []
  | d :: ds => match f d, lW f ds with
    | some e, some es => some (e :: es)
    | _, _ => none
noncomputable def gO (k : Nat) (h : Hh) : Nat -> D -> Option D
  | 0, _ => none
  | f + 1, d => match d with
    | .ref n => if n < k then some (.ref n) else match aF h n with
      | some ds => (lW (gO k h f) ds).map .frl
      | none => none
    | .tup ds => (lW (gO k h f) ds).map .tup
    | .frl ds => (lW (gO k h f) ds).map .frl
    | .scr _ => none
    | .clo f ds => if cz 0 ds = true then some (.clo f ds) else none
    | d => some d
noncomputable def eZ (h : Hh) : D -> Hh -> R D := fun d h' => if (h'.take h.length).all (s_ h.length) = true then match gO h.length h' 8 d with
  | some e => .ok e (h'.take h.length)
  | none => .bad else .bad
open Classical in
noncomputable def kl (S : Addr -> Prop) (o : Addr -> Obj) (H : Hp) : Hp := fun p => if S p then (H p).map (.frz (o p)) else H p
theorem Cq {P : Program} {w : World} {H : Hp} {h : Heap} {p : Addr} {u : HO} (q : cP P w H h p u) (mu : Mut (some u)) : ∃ o, h.get? p = some o := by
  cases u with
  | lst xs => obtain ⟨_, _, _, _, e'⟩ := q; exact ⟨_, e'⟩
  | dK kvs => obtain ⟨_, _, _, _, o, _, _, e', _⟩ := q; exact ⟨_, e'⟩
  | dT kvs => obtain ⟨_, _, _, _, o, _, _, e', _⟩ := q; exact ⟨_, e'⟩
  | set S n => obtain ⟨o, _, _, _, e', _⟩ := q; exact ⟨_, e'⟩
  | ins C dx fs => obtain ⟨_, _, _, e', _⟩ := q; exact ⟨_, e'⟩
  | ext φ => obtain ⟨_, ⟨_, e'⟩, _⟩ := q; exact ⟨_, e'⟩
  | _ => exact absurd mu (fun z => z)
theorem CK {outer : List Env} {P : Program} {w : World} {H : Hp} {s : Shared} {Q Q' : VK} {u : Value} {s' : Shared} (h : CE outer P w H s Q' u s')
    (hQ : ∀ v H', Q' v H' -> ∃ S : Addr -> Prop, (∀ p, S p -> ∃ u, H' p = some u /\ Mut (some u)) /\ ∀ o : Addr -> Obj, Q v (kl S o H')) : CE outer P w H s Q u s' := by
  obtain ⟨v, H', os, bare, un, hok, r, q⟩ := h
  obtain ⟨S, hS, q⟩ := hQ v H' q
  have hS1 : ∀ p, S p -> ∀ u, H' p = some u -> Mut (some u) := fun p z u e => by obtain ⟨u', e', m⟩ := hS p z; rw [e] at e'; cases e'; exact m
  have off : ∀ (o : Addr -> Obj) b u, H' b = some u -> ¬ Mut (some u) -> kl S o H' b = some u := fun o b u e m => by
    unfold kl
    rw [if_neg fun z => m (hS1 b z u e)]; exact e
  have offn : ∀ (o : Addr -> Obj) b, H' b = none -> kl S o H' b = none := fun o b e => by
    unfold kl
    split
    · rw [e]; rfl
    · exact e
  let o : Addr -> Obj := fun b => (s'.heap.get? b).getD { cls := .none, data := .fields #[] }
  refine ⟨v, kl S o H', os, bare, ⟨un.keep, un.slot, fun b ob e n hx => offn o b (un.free b ob e n hx), un.there, fun b xs e => off o b _ (un.my b xs e) fun z => z, fun b ob xs e => off o b _ (un.lO b ob xs e) fun z => z, fun b ps e => ?_⟩, ?_, r, q o⟩
  · obtain ⟨more, e1⟩ := un.mM b ps e
    exact ⟨more, off o b _ e1 fun z => z⟩
  · intro b u e
    have st : ∀ u, cP P w H' s'.heap b u -> cP P w (kl S o H') s'.heap b u := fun u x => x.lC (fun _ _ _ z => z) (fun c z => off o c _ z fun z => z) fun c xs z => off o c _ z fun z => z
    unfold kl at e
    split at e
    · rename_i hb
      obtain ⟨u', e', m⟩ := hS b hb
      rw [e'] at e
      cases e
      have x := hok b u' e'
      obtain ⟨ob, eo⟩ := Cq x m
      refine ⟨?_, st _ x⟩
      show s'.heap.get? b = some ((s'.heap.get? b).getD _)
      rw [eo]; rfl
    · exact st u (hok b u e)
section
variable {K : PySem.W.Frag} {g : GG} {α α' : List Addr} {H H' H2 : Hp} {k : Nat}
structure tY (K : PySem.W.Frag) (α α' : List Addr) (H' H2 : Hp) (k : Nat) : Prop where
  pre : ∀ n, n < k -> α[n]? = α'[n]?
  tup : ∀ p xs, H' p = some (.tup xs) -> H2 p = some (.tup xs)
  frz : ∀ p (o : Obj) (u : HO), H' p = some (.frz o u) -> H2 p = some (.frz o u)
mutual
theorem qx (L : tY K α α' H' H2 k) : ∀ {d : D} {v : V}, jB k d = true -> aH K g α' H' d v -> aH K g α H2 d v
  | _, _, _, .non => .non
  | _, _, _, .bl b => .bl b
  | _, _, _, .int i => .int i
  | _, _, _, .str x => .str x
  | _, _, hl, .ref h => .ref (by rw [L.pre _ (by simpa [jB] using hl)]; exact h)
  | _, _, hl, .tup h r => .tup (L.tup _ _ h) (fX L (by simpa [jB] using hl) r)
  | _, _, hl, .frl h r => .frl (let ⟨o, h⟩ := h; ⟨o, L.frz _ _ _ h⟩) (fX L (by simpa [jB] using hl) r)
  | _, _, hl, .scr h r => .scr (h.elim (fun ⟨o, h⟩ => .inl ⟨o, L.frz _ _ _ h⟩) .inr) (fX L (by simpa [jB] using hl) r)
  | _, _, _, .fn h => .fn h
  | _, _, _, .edic h => .edic (L.frz _ _ _ h)
  | _, _, _, .exc hg h hc hd hf => .exc hg (L.frz _ _ _ h) hc hd (hf.elim .inl fun ⟨dx, od, a, b⟩ => .inr ⟨dx, od, a, L.frz _ _ _ b⟩)
  | _, _, hl, .clo h l hc hd hv cs r => .clo (L.frz _ _ _ h) l (L.frz _ _ _ hc) hd hv (L2.Paired.sh cs fun _ _ ⟨c, o, u, l, a, b⟩ => ⟨c, o, u, l, L.frz _ _ _ a, b⟩) (fX L (by simpa [jB] using hl) r)
theorem fX (L : tY K α α' H' H2 k) : ∀ {ds : List D} {vs : List V}, cz k ds = true -> av K g α' H' ds vs -> av K g α H2 ds vs
  | _, _, _, .nil => .nil
  | _, _, hl, .cons r t => by
    simp only [cz, Bool.and_eq_true] at hl
    exact .cons (qx L hl.1 r) (fX L hl.2 t)
end
theorem kB {f : D -> Option D} (hf : ∀ d e v, f d = some e -> aH K g α' H' d v -> aH K g α H2 e v) : ∀ {ds es : List D} {vs : List V}, lW f ds = some es -> av K g α' H' ds vs -> av K g α H2 es vs
  | [], es, _, e, .nil => by cases e; exact .nil
  | d :: ds, es, _, e, .cons r t => by
    unfold lW at e
    split at e
    · rename_i e1 es1 h1 h2
      cases e
      exact .cons (hf _ _ _ h1 r) (kB hf h2 t)
    · cases e
theorem mY {h' hx : Hh} (L : tY K α α' H' H2 k) (r : aW K g α' H' h') (hx' : ∀ n ds, aF hx n = some ds -> aF h' n = some ds) (fz : ∀ n p ds vs, k <= n -> aF hx n = some ds -> α'[n]? = some p -> H' p = some (.lst vs) -> Fr1 H2 p vs) :
    ∀ (f : Nat) (d e : D) (v : V), gO k hx f d = some e -> aH K g α' H' d v -> aH K g α H2 e v
  | 0, _, _, _, e, _ => by cases e
  | f + 1, d, e, v, he, rd => by
    unfold gO at he
    cases rd with
    | non => cases he; exact .non
    | bl b => cases he; exact .bl b
    | int i => cases he; exact .int i
    | str x => cases he; exact .str x
    | fn h => cases he; exact .fn h
    | edic h => cases he; exact .edic (L.frz _ _ _ h)
    | exc hg h hc hd hf => cases he; exact .exc hg (L.frz _ _ _ h) hc hd (hf.elim .inl fun ⟨dx, od, a, b⟩ => .inr ⟨dx, od, a, L.frz _ _ _ b⟩)
    | scr _ _ => cases he
    | clo h l hc hd hv cs rs =>
      simp only at he
      split at he
      · rename_i lo
        cases he
        exact .clo (L.frz _ _ _ h) l (L.frz _ _ _ hc) hd hv (L2.Paired.sh cs fun _ _ ⟨c, o, u, l, a, b⟩ => ⟨c, o, u, l, L.frz _ _ _ a, b⟩) (fX (k := 0) ⟨fun n hn => absurd hn (Nat.not_lt_zero _), L.tup, L.frz⟩ lo rs)
      · cases he
    | tup h rs =>
      simp only at he
      cases e1 : lW (gO k hx f) _ with
      | none => rw [e1] at he; cases he
      | some es => rw [e1] at he; cases he; exact .tup (L.tup _ _ h) (kB (fun d e v => mY L r hx' fz f d e v) e1 rs)
    | frl h rs =>
      simp only at he
      cases e1 : lW (gO k hx f) _ with
      | none => rw [e1] at he; cases he
      | some es => rw [e1] at he; cases he; exact .frl (let ⟨o, h⟩ := h; ⟨o, L.frz _ _ _ h⟩) (kB (fun d e v => mY L r hx' fz f d e v) e1 rs)
    | @ref n p hp =>
      simp only at he
      split at he
      · rename_i hn
        cases he
        exact .ref (by rw [L.pre n hn]; exact hp)
      · rename_i hn
        cases el : aF hx n with
        | none => rw [el] at he; cases he
        | some ds =>
          rw [el] at he
          simp only at he
          cases e1 : lW (gO k hx f) ds with
          | none => rw [e1] at he; cases he
          | some es =>
            rw [e1] at he; cases he
            obtain ⟨vs, hv, rs⟩ := r.lst (hx' n ds el) hp
            exact .frl (fz n p ds vs (by omega) el hp hv) (kB (fun d e v => mY L r hx' fz f d e v) e1 rs)
end
theorem ub {β : Type} {l : List β} {k n : Nat} {x : β} (e : (l.take k)[n]? = some x) : n < k /\ l[n]? = some x := by
  rw [List.getElem?_take] at e
  split at e
  · exact ⟨by assumption, e⟩
  · cases e
theorem vQ {α α' : List Addr} (h : α <+: α') {n : Nat} (hn : n < α.length) : α[n]? = α'[n]? := by
  obtain ⟨t, rfl⟩ := h
  rw [List.getElem?_append_left hn]
theorem AU {β : Type} {l : List β} {f : β -> Bool} (h : l.all f = true) {n : Nat} {x : β} (e : l[n]? = some x) : f x = true := List.all_eq_true.mp h x (List.mem_of_getElem? e)
theorem yV {K : PySem.W.Frag} {g : GG} {α α' α2 : List Addr} {H H' H2 : Hp} {h h' : Hh} (r0 : α.length = h.length) (e : Ext K α H α' H') (r : aW K g α' H' h') (hl : (h'.take h.length).all (s_ h.length) = true)
    (L : tY K α2 α' H' H2 h.length) (kp : ∀ n p u, n < h.length -> α'[n]? = some p -> H' p = some u -> H2 p = some u) : ∀ (n : Nat) (p : Addr) (o : O), n < h.length -> α'[n]? = some p -> (h'.take h.length)[n]? = some o -> OAt K g α2 H2 p o := by
  intro n p o hn hp ho
  have lo := AU hl ho
  obtain ⟨_, ho'⟩ := ub ho
  have q := r.here n p o hp ho'
  cases o with
  | lst ds => obtain ⟨vs, a, b⟩ := q; exact ⟨vs, kp n p _ hn hp a, fX L lo b⟩
  | set m => exact kp n p _ hn hp q
  | dic kvs =>
    obtain ⟨kws, a, b⟩ := q
    refine ⟨kws, kp n p _ hn hp a, ?_⟩
    replace lo : cz h.length (kvs.map (·.2)) = true := lo
    clear a ho ho'
    induction b with
    | nil => exact .nil
    | cons x t ih =>
      simp only [List.map_cons, cz, Bool.and_eq_true] at lo
      exact .cons ⟨x.1, qx L lo.1 x.2⟩ (ih lo.2)
  | dit kvs =>
    obtain ⟨kws, a, b⟩ := q
    refine ⟨kws, kp n p _ hn hp a, ?_⟩
    replace lo : cz h.length (kvs.map (·.2)) = true := lo
    clear a ho ho'
    induction b with
    | nil => exact .nil
    | cons x t ih =>
      simp only [List.map_cons, cz, Bool.and_eq_true] at lo
      exact .cons ⟨x.1, qx L lo.1 x.2⟩ (ih lo.2)
section
variable {P : Program} {w : World} {K : PySem.W.Frag} {mg : Str -> Option Value} {base : Heap} {g : GG} {k np : Nat} {f : Addr} {fd : FuncData} {ps : List Str} {m : MF}
theorem jv {CX : CXT} {ε : XK -> EE} (F : eS P w K mg base CX k f fd ps (spG K g ε np m)) : eS P w K mg base CX k f fd ps (spG K g ε np fun ds h => (m ds h).bind (eZ h)) := by
  refine ⟨fun vs H Q E h => ?_, fun A outer s H args us vs Q E hr e0 hb hv hsp => ?_⟩
  · obtain ⟨hl, α, ds, h, rs, hh, w⟩ := h
    exact F.len vs H (fun _ _ => True) E ⟨hl, α, ds, h, rs, hh, w.bind.mono fun _ _ _ _ _ _ _ _ _ _ => trivial⟩
  · obtain ⟨hl, α, ds, h, rs, hh, w⟩ := hsp
    refine codeAny_mono (F.run A outer s H args us vs (fun v H' => ∃ α' d h', Ext K α H α' H' /\ aW K g α' H' h' /\ aH K g α' H' d v /\ WQ K g (ε E) α H (eZ h d h') (aR K g α H Q)) E hr e0 hb hv ⟨hl, α, ds, h, rs, hh, w.bind.mono fun d h' _ w1 v H' α' e r rd => ⟨α', d, h', e, r, rd, w1⟩⟩) fun res s' q => ?_
    cases res with
    | error e => exact q
    | ok fl =>
      cases fl with
      | ret u =>
        refine CK (show CE outer P _ H s _ u s' from q) fun v H' ⟨α', d, h', e, r, rd, w⟩ => ?_
        refine ⟨fun p => ∃ n ds, h.length <= n /\ α'[n]? = some p /\ aF h' n = some ds, fun p ⟨n, ds, _, hp, hn⟩ => ?_, fun o => ?_⟩
        · obtain ⟨vs, hv, _⟩ := r.lst hn hp
          exact ⟨_, hv, trivial⟩
        · unfold eZ at w
          obtain ⟨hl, w⟩ := WQ.gz w
          cases ez : gO h.length h' 8 d with
          | none => rw [ez] at w; exact w.elim
          | some e' =>
            rw [ez] at w
            generalize hS : (fun p => ∃ n ds, h.length <= n /\ α'[n]? = some p /\ aF h' n = some ds) = S
            have inS : ∀ p, S p ↔ ∃ n ds, h.length <= n /\ α'[n]? = some p /\ aF h' n = some ds := fun p => by rw [<- hS]
            have k0 : α.length = h.length := hh.len
            have notS : ∀ p u, H' p = some u -> (∀ vs, u ≠ .lst vs) -> ¬ S p := fun p u e1 e2 z => by
              obtain ⟨n, ds, _, hp, hn⟩ := (inS p).mp z
              obtain ⟨vs, hv, _⟩ := r.lst hn hp
              rw [e1] at hv; cases hv; exact e2 vs rfl
            have off : ∀ p, ¬ S p -> kl S o H' p = H' p := fun p z => by unfold kl; rw [if_neg z]
            have offT : ∀ (p : Addr) (ps : Array Value), H' p = some (.tbl ps) -> kl S o H' p = some (.tbl ps) := fun p ps z => by rw [off p (notS p _ z fun vs z => nomatch z)]; exact z
            have L : tY K α α' H' (kl S o H') h.length := ⟨fun n hn => vQ e.pre (by omega), fun p xs z => by rw [off p (notS p _ z fun vs z => nomatch z)]; exact z, fun p o u z => by rw [off p (notS p _ z fun vs z => nomatch z)]; exact z⟩
            have kp : ∀ n p u, n < h.length -> α'[n]? = some p -> H' p = some u -> kl S o H' p = some u := fun n p u hn hp e1 => by
              rw [off p fun z => ?_]; exact e1
              obtain ⟨m, ds, hm, hp', _⟩ := (inS p).mp z
              have := r.inj n m p hp hp'
              omega
            have rd2 : aH K g α (kl S o H') e' v := mY L r (fun _ _ z => z) (fun n p ds vs hn hl hp hv => ⟨o p, by unfold kl; rw [if_pos ((inS p).mpr ⟨n, ds, hn, hp, hl⟩), hv]; rfl⟩) 8 d e' v ez rd
            refine (show aR K g α H Q e' (h'.take h.length) from w) v _ α ⟨⟨List.prefix_refl _, fun p xs z => L.tup p xs (e.tup p xs z), fun p o u z => L.frz p o u (e.frz p o u z), fun p ps z => (e.tbl p ps z).imp fun _ q => offT p _ q⟩, fun p u z n nt => ?_, fun _ z n => absurd z n⟩ ⟨?_, fun n m p h1 h2 => hh.inj n m p h1 h2, fun n p ob h1 h2 => ?_, r.tab.mono offT L.frz⟩ rd2
            · rw [off p fun z' => ?_]; exact e.kept p u z n nt
              obtain ⟨m, ds, _, hp', _⟩ := (inS p).mp z'
              have := e.new p (List.mem_of_getElem? hp') n
              rw [z] at this; cases this
            · rw [List.length_take, <- r.len, k0]
              have := e.pre.length_le
              omega
            · have hn : n < h.length := (ub h2).1
              rw [vQ e.pre (by omega)] at h1
              exact yV k0 e r hl L kp n p ob hn h1 h2
      | next => exact q
      | brk => exact q
      | cont => exact q
end
end L2.FE
namespace L2
open PySem PySem.Spec PyProof.Rows
noncomputable def Izl (K : PySem.W.Frag) (a b : Addr) : It :=
  ⟨fun i H => ∃ xs ys x y, SqL K H a xs /\ SqL K H b ys /\ xs[i]? = some x /\ ys[i]? = some y,
   fun i H x H' => ∃ p v w, x = .ref p /\ H p = none /\ (∀ xs, SqL K H a xs -> xs[i]? = some v) /\ (∀ ys, SqL K H b ys -> ys[i]? = some w) /\ H' = upd H p (.tup [v, w]),
   fun i H => ∃ xs ys, SqL K H a xs /\ SqL K H b ys /\ (xs.length <= i \/ ys.length <= i)⟩
structure ZA (z TI TO i1 i2 : Addr) : Prop where
  TIz : TI ≠ z
  TOz : TO ≠ z
  i1z : i1 ≠ z
  i2z : i2 ≠ z
  TITO : TI ≠ TO
  TIi1 : TI ≠ i1
  TIi2 : TI ≠ i2
  TOi1 : TO ≠ i1
  TOi2 : TO ≠ i2
  i12 : i1 ≠ i2
noncomputable def By (z TI TO i1 i2 a b : Addr) (i : Nat) (h : Heap) : Prop :=
  IsZip h z TI TO .none /\ IsPair h TI (.ref i1) (.ref i2) /\ (∃ x y, IsPair h TO x y) /\ h.IsListIter i1 a i /\ h.IsListIter i2 b i
theorem qe {z TI TO i1 i2 a b : Addr} {i : Nat} {h : Heap} {xs ys : Array Value} (A : ZA z TI TO i1 i2) (st : By z TI TO i1 i2 a b i h) (ha : h.IsList a xs) (hb : h.IsList b ys) : ZipApart z TI TO i1 i2 a b := by
  obtain ⟨hz, hTI, ⟨x, y, hTO⟩, h1, h2⟩ := st
  have cl : ∀ {l : Addr} {vs : Array Value}, h.IsList l vs -> l ≠ z /\ l ≠ TO /\ l ≠ i1 /\ l ≠ i2 := fun {l vs} hl => by
    obtain ⟨oa, qa, ca, _⟩ := hl
    obtain ⟨o1, q1, c1, _⟩ := h1
    obtain ⟨o2, q2, c2, _⟩ := h2
    refine ⟨fun q => ?_, fun q => ?_, fun q => ?_, fun q => ?_⟩
    · rw [q, hz] at qa; cases qa; injection ca with w; exact absurd w (by decide)
    · rw [q, hTO] at qa; cases qa; injection ca with w; exact absurd w (by decide)
    · rw [q, q1] at qa; cases qa; rw [c1] at ca; injection ca with w; exact absurd w (by decide)
    · rw [q, q2] at qa; cases qa; rw [c2] at ca; injection ca with w; exact absurd w (by decide)
  obtain ⟨a1, a2, a3, a4⟩ := cl ha
  obtain ⟨b1, b2, b3, b4⟩ := cl hb
  exact ⟨A.TIz, A.TOz, A.i1z, A.i2z, A.TITO, A.TIi1, A.TIi2, A.TOi1, A.TOi2, A.i12, a1, a2, a3, a4, b1, b2, b3, b4⟩
theorem wX {P : Program} {w : World} {K : PySem.W.Frag} {elts : List Expr} {k : Nat} {pos : Pos} {a b z TI TO i1 i2 : Addr} (A : ZA z TI TO i1 i2) : Turn P w K (.Tuple elts k pos) (Izl K a b) [z, TI, TO, i1, i2] z (By z TI TO i1 i2 a b) where
  mem := by simp
  obj := fun i h st c hc => by
    obtain ⟨hz, hTI, ⟨x, y, hTO⟩, ⟨o1, q1, _, d1⟩, ⟨o2, q2, _, d2⟩⟩ := st
    simp only [List.mem_cons, List.not_mem_nil, or_false] at hc
    rcases hc with e | e | e | e | e <;> rw [e]
    · exact ⟨_, hz, fun v q => nomatch q⟩
    · exact ⟨_, hTI, fun v q => nomatch q⟩
    · exact ⟨_, hTO, fun v q => nomatch q⟩
    · exact ⟨o1, q1, fun v y => by rw [d1] at y; cases y⟩
    · exact ⟨o2, q2, fun v y => by rw [d2] at y; cases y⟩
  keep := fun i h h' st kk => by
    obtain ⟨hz, hTI, ⟨x, y, hTO⟩, h1, h2⟩ := st
    exact ⟨kk z (by simp) _ hz, kk TI (by simp) _ hTI, ⟨x, y, kk TO (by simp) _ hTO⟩, h1.at fun o q => kk i1 (by simp) o q, h2.at fun o q => kk i2 (by simp) o q⟩
  item := by
    intro X hP hw hK hc i pins s σ H E I hf st hg
    subst hP hw hK
    obtain ⟨xs, ys, x, y, hq, hr, hx, hy⟩ := hg
    obtain ⟨its, rv, p, hz⟩ := I.list hq
    obtain ⟨jts, rw', p', hz'⟩ := I.list hr
    obtain ⟨u, hu, ru⟩ := rv.get hx
    obtain ⟨u', hu', ru'⟩ := rw'.get hy
    have D := qe A st p.isList p'.isList
    obtain ⟨z1, z2, ⟨t1, t2, z3⟩, z4, z5⟩ := st
    refine wpAny_pyNext_zip_item D z1 z2 z3 z4 z5 p.isList p'.isList (x := u) (y := u') (by simpa using hu) (by simpa using hu') fun h1 a1 a2 a3 a4 a5 a6 k1 => ?_
    refine ⟨_, rfl, wpAny_letOwnedTupleGo_zip a1 fun h2 b1 b2 => ?_⟩
    have lt : ∀ {c o}, s.heap.get? c = some o -> s.heap.objs.size ≠ c := fun e => Nat.ne_of_gt (Heap.lt_size e)
    have kk : ∀ c o, c ∉ [z, TI, TO, i1, i2] -> s.heap.get? c = some o -> h2.get? c = some o := fun c o hc q => by
      simp only [List.mem_cons, List.not_mem_nil, or_false, not_or] at hc
      exact b2.extBut _ _ hc.1 (k1 c o hc.1 hc.2.2.1 hc.2.2.2.1 hc.2.2.2.2 q)
    have hn : H s.heap.objs.size = none := I.hok.fresh (Nat.le_refl _)
    have hzT : s.heap.objs.size ≠ z := lt z1
    have nTf : ∀ c ∈ [z, TI, TO, i1, i2], c ≠ s.heap.objs.size := fun c hc => by
      simp only [List.mem_cons, List.not_mem_nil, or_false] at hc
      rcases hc with e | e | e | e | e <;> rw [e]
      · exact (lt z1).symm
      · exact (lt z2).symm
      · exact (lt z3).symm
      · obtain ⟨o, q, _⟩ := z4; exact (lt q).symm
      · obtain ⟨o, q, _⟩ := z5; exact (lt q).symm
    have hT2 : lF h2 s.heap.objs.size #[u, u'] := ⟨_, b2.extBut _ _ hzT a5, ⟨rfl, _, rfl⟩, rfl⟩
    refine ⟨.ref s.heap.objs.size, upd H s.heap.objs.size (.tup [x, y]), I.yielded (t' := s.toks) hf kk (Nat.le_refl _) ⟨by show 2 <= sizeLine; decide, [u, u'], .cons ru (.cons ru' .nil), hT2⟩, rfl, ⟨_, x, y, rfl, hn, fun l hl => by rw [I.jg hl hq]; exact hx, fun l hl => by rw [I.jg hl hr]; exact hy, rfl⟩, ?_, fun c hc => by rw [aJ (nTf c hc)]; exact (hf c hc).1⟩
    exact ⟨b1, b2.extBut _ _ A.TIz (k1 _ _ A.TIz A.TITO A.TIi1 A.TIi2 z2), ⟨_, _, b2.extBut _ _ A.TOz a2⟩, a3.extBut b2.extBut A.i1z, a4.extBut b2.extBut A.i2z⟩
  done := by
    intro X hP hw hK hc i pins s σ H E I hf st hg
    subst hP hw hK
    obtain ⟨xs, ys, hq, hr, hx⟩ := hg
    obtain ⟨its, rv, p, hz⟩ := I.list hq
    obtain ⟨jts, rw', p', hz'⟩ := I.list hr
    have D := qe A st p.isList p'.isList
    obtain ⟨z1, z2, ⟨t1, t2, z3⟩, z4, z5⟩ := st
    have hl := rv.length
    have hl' := rw'.length
    refine wpAny_pyNext_zip_end (I.ok.hd hc) D z1 z2 z3 z4 z5 p.isList p'.isList ?_ fun h' eb => ⟨rfl, I.m6 (t' := s.toks) hf fun b u hb q => eb b u (fun z => hb (by simp [z])) (fun z => hb (by simp [z])) (fun z => hb (by simp [z])) (fun z => hb (by simp [z])) q⟩
    rcases hx with hx | hx
    · exact .inl (Array.getElem?_eq_none (by rw [List.size_toArray]; omega))
    · exact .inr (Array.getElem?_eq_none (by rw [List.size_toArray]; omega))
  self := fun A i s Q E st q => wpAny_pyIter_zip st.1 q
end L2
namespace L2.FE
open PySem PySem.Spec PyProof.Rows
section
variable {X : Cx} {g : GG} {ε : EE} {K : PySem.W.Frag}
noncomputable def jF : List D -> List D -> List D
  | x :: xs, y :: ys => D.tup [x, y] :: jF xs ys
  | _, _ => []
theorem nY : ∀ {ds es : List D} {i : Nat}, (jF ds es)[i]? = match ds[i]?, es[i]? with | some d, some e => some (D.tup [d, e]) | _, _ => none
  | [], _, _ => by simp [jF]
  | _ :: _, [], _ => by
    simp only [jF, List.getElem?_nil]
    split <;> simp_all
  | _ :: _, _ :: _, 0 => by simp [jF]
  | _ :: xs, _ :: ys, i + 1 => by
    simp only [jF, List.getElem?_cons_succ]
    exact nY
theorem vy {α : List Addr} {H : Hp} {h : Hh} {d e : D} {v w : V} {p : Addr} (hr : aW K g α H h) (rv : aH K g α H d v) (rw' : aH K g α H e w) (hp : H p = none) :
    ∃ α', Ext K α H α' (upd H p (.tup [v, w])) /\ aW K g α' (upd H p (.tup [v, w])) h /\ aH K g α' (upd H p (.tup [v, w])) (.tup [d, e]) (.ref p) :=
  ⟨α, Ext.fresh hp, hr.grow hp, .tup bj (.cons (rv.ext (Ext.fresh hp)) (.cons (rw'.ext (Ext.fresh hp)) .nil))⟩
theorem wg {α : List Addr} {H : Hp} {a b : Addr} {ds es : List D} {vs ws : List V} (hq : Fro K H a vs) (rs : av K g α H ds vs) (hq' : Fro K H b ws) (rs' : av K g α H es ws) : Reads K g (Izl K a b) (Src.snap (jF ds es)).rdr α H := by
  intro α2 H2 h2 x2 hr i
  have hq2 : SqL K H2 a vs := (x2.fro _ _ hq).sq
  have hq2' : SqL K H2 b ws := (x2.fro _ _ hq').sq
  have rs2 := rs.ext x2
  have rs2' := rs'.ext x2
  show match some (jF ds es)[i]? with | none => True | some none => _ | some (some d) => _
  rw [nY]
  cases e : ds[i]? with
  | none =>
    have : ds.length <= i := List.getElem?_eq_none_iff.mp e
    exact ⟨vs, ws, hq2, hq2', .inl (by rw [<- rs.length]; exact this)⟩
  | some d =>
    cases e' : es[i]? with
    | none =>
      have : es.length <= i := List.getElem?_eq_none_iff.mp e'
      exact ⟨vs, ws, hq2, hq2', .inr (by rw [<- rs'.length]; exact this)⟩
    | some d' =>
      obtain ⟨v, ev, rv⟩ := rs2.get e
      obtain ⟨v', ev', rv'⟩ := rs2'.get e'
      refine ⟨⟨vs, ws, v, v', hq2, hq2', ev, ev'⟩, fun x H' y => ?_⟩
      obtain ⟨p, u, u', e1, hp, e2, e2', e3⟩ := y
      subst e1 e3
      have := e2 vs hq2
      rw [ev] at this
      cases this
      have := e2' ws hq2'
      rw [ev'] at this
      cases this
      exact vy hr rv rv' hp
end
end L2.FE
namespace L2
open PySem PySem.Spec PyProof.Rows
section
variable {prog : Program} {w : World} {A : Around} {E : Value -> Shared -> Prop} {s : Shared}
theorem wH {z U V a b p q : Addr} {i j : Nat} {xs ys : Array Value} {x y v1 v2 : Value} {Q : Value -> Shared -> Prop} (D : ZipApart z U V a b p q) (hz : IsZip s.heap z U V .none) (hU : IsPair s.heap U (.ref a) (.ref b)) (hV : IsPair s.heap V v1 v2)
    (ha : s.heap.IsTupleIter a p i) (hb : s.heap.IsTupleIter b q j) (hp : s.heap.IsTuple p xs) (hq : s.heap.IsTuple q ys) (hx : xs[i]? = some x) (hy : ys[j]? = some y)
    (K : ∀ h', IsZip h' z U V (rawInt s.heap.objs.size) -> IsPair h' V x y -> h'.IsTupleIter a p (i + 1) -> h'.IsTupleIter b q (j + 1) -> IsPair h' s.heap.objs.size x y -> h'.objs.size = s.heap.objs.size + 1 -> (∀ c o, c ≠ z -> c ≠ V -> c ≠ a -> c ≠ b -> s.heap.get? c = some o -> h'.get? c = some o) -> Q (.ref s.heap.objs.size) { s with heap := h' }) :
    wpAny (model prog w) A (Builtin.«zip.__next__» ⟨[.ref z], []⟩) (fun f s' => ∃ v, f = .done (.ret v) /\ Q v s') E s := by
  show wpAny _ _ (field (.ref z) 2 >>= _) _ _ _; refine wpAny_bind (wpAny_field hz rfl (x := .bool false) rfl ?_); show wpAny _ _ (field (.ref z) 3 >>= _) _ _ _
  refine wpAny_bind (wpAny_field hz rfl (x := .ref U) rfl (wpAny_bind (wpAny_seqItems hU rfl ?_)))
  show wpAny _ _ (Builtin.SmallTypes.ownedTupleIsFree (.ref z) >>= _) _ _ _; refine wpAny_bind ?_; unfold Builtin.SmallTypes.ownedTupleIsFree
  refine wpAny_bind (wpAny_field hz rfl (x := .none) rfl (wpAny_pure ?_)); simp only [if_true]
  refine wpAny_bind (wpAny_rule (wpAny_bind (wpAny_field hz rfl (x := .ref V) rfl (wpAny_bind (wpAny_setField_rec hz (by simp) fun g1 z1 m1 => ?_)))))
  replace z1 : IsZip g1 z U V .ellipsis := z1
  refine wpAny_bind ?_; simp only [List.zipIdx_cons, List.zipIdx_nil, List.forIn_cons, List.forIn_nil]
  refine wpAny_bind (wpAny_bind (wpAny_onRaise ?_)); show wpAny _ _ (Builtin.SmallTypes.nextOf (.ref a) >>= _) _ _ _
  refine wpAny_bind (iE (ha.extBut m1.extBut D.i1z) (hp.extBut m1.extBut D.l1z) hx fun g2 a2 m2 => wpAny_pure ?_)
  have V2 : IsPair g2 V v1 v2 := m2.extBut _ _ D.TOi1 (m1.extBut _ _ D.TOz hV)
  refine wpAny_bind (wpAny_seqItems V2 rfl (wpAny_bind (wpAny_updateSeq_pair V2 fun g3 V3 m3 => ?_)))
  replace V3 : IsPair g3 V x v2 := V3
  refine wpAny_bind (wpAny_letGo (wpAny_pure (wpAny_bind (wpAny_bind (wpAny_onRaise ?_))))); show wpAny _ _ (Builtin.SmallTypes.nextOf (.ref b) >>= _) _ _ _
  refine wpAny_bind (iE (((hb.extBut m1.extBut D.i2z).extBut m2.extBut D.i12.symm).extBut m3.extBut D.TOi2.symm) (((hq.extBut m1.extBut D.l2z).extBut m2.extBut D.l2i1).extBut m3.extBut D.l2TO) hy fun g4 b4 m4 => wpAny_pure ?_)
  have V4 : IsPair g4 V x v2 := m4.extBut _ _ D.TOi2 V3
  refine wpAny_bind (wpAny_seqItems V4 rfl (wpAny_bind (wpAny_updateSeq_pair V4 fun g5 V5 m5 => ?_)))
  replace V5 : IsPair g5 V x y := V5
  refine wpAny_bind (wpAny_letGo (wpAny_pure (wpAny_pure (wpAny_bind (wpAny_seqItems V5 rfl (wpAny_bind (wpAny_newTuple ?_)))))))
  have n5 : g5.objs.size = s.heap.objs.size := by rw [m5.1, m4.1, m3.1, m2.1, m1.1]
  have z5 : IsZip g5 z U V .ellipsis := m5.extBut _ _ D.TOz.symm (m4.extBut _ _ D.i2z.symm (m3.extBut _ _ D.TOz.symm (m2.extBut _ _ D.i1z.symm z1)))
  have k5 : ∀ c o, c ≠ z -> c ≠ V -> c ≠ a -> c ≠ b -> s.heap.get? c = some o -> g5.get? c = some o := fun c o c1 c2 c3 c4 e => m5.extBut _ _ c2 (m4.extBut _ _ c4 (m3.extBut _ _ c2 (m2.extBut _ _ c3 (m1.extBut _ _ c1 e))))
  have a5 : g5.IsTupleIter a p (i + 1) := ((a2.extBut m3.extBut D.TOi1.symm).extBut m4.extBut D.i12).extBut m5.extBut D.TOi1.symm
  have b5 : g5.IsTupleIter b q (j + 1) := b4.extBut m5.extBut D.TOi2.symm
  have lz : z < g5.objs.size := Heap.lt_size z5
  show wpAny _ _ (Builtin.SmallTypes.ownedTupleHandOut (.ref z) (.ref g5.objs.size) >>= _) _ _ _; refine wpAny_bind ?_; unfold Builtin.SmallTypes.ownedTupleHandOut
  have z6 : IsZip (g5.push { cls := .type "tuple", data := .seq #[x, y] }) z U V .ellipsis := Heap.get?_push_of_some _ z5
  refine wpAny_bind (wpAny_setField_rec z6 (by simp) fun g7 z7 m7 => ?_)
  replace z7 : IsZip g7 z U V (rawInt g5.objs.size) := z7
  refine wpAny_setField_rec z7 (by simp) fun g8 z8 m8 => ?_
  replace z8 : IsZip g8 z U V (rawInt g5.objs.size) := z8
  have up : ∀ c o, c ≠ z -> g5.get? c = some o -> g8.get? c = some o := fun c o c1 e => m8.extBut _ _ c1 (m7.extBut _ _ c1 (Heap.get?_push_of_some _ e))
  have T8 : IsPair g8 g5.objs.size x y := m8.extBut _ _ (Nat.ne_of_gt lz) (m7.extBut _ _ (Nat.ne_of_gt lz) (Heap.get?_push_size _ rfl))
  have n8 : g8.objs.size = g5.objs.size + 1 := by rw [m8.1, m7.1, Heap.size_push]
  rw [n5] at z8 T8 n8
  refine wpAny_pure ⟨_, rfl, ?_⟩; show Q (.ref g5.objs.size) _; rw [n5]
  exact K g8 z8 (up _ _ D.TOz V5) (a5.at fun o e => up _ o D.i1z e) (b5.at fun o e => up _ o D.i2z e) T8 n8 fun c o c1 c2 c3 c4 e => up c o c1 (k5 c o c1 c2 c3 c4 e)
theorem yS {z U V a b p q : Addr} {i j : Nat} {xs ys : Array Value} {v1 v2 : Value} {Q : Fin -> Shared -> Prop} (hh : A.handled = none) (D : ZipApart z U V a b p q) (hz : IsZip s.heap z U V .none) (hU : IsPair s.heap U (.ref a) (.ref b)) (hV : IsPair s.heap V v1 v2)
    (ha : s.heap.IsTupleIter a p i) (hb : s.heap.IsTupleIter b q j) (hp : s.heap.IsTuple p xs) (hq : s.heap.IsTuple q ys) (he : xs[i]? = none \/ ys[j]? = none)
    (K : ∀ h' e, (∀ c o, c ≠ z -> c ≠ V -> c ≠ a -> c ≠ b -> s.heap.get? c = some o -> h'.get? c = some o) -> (∃ o, h'.get? e = some o /\ o.cls = .type "StopIteration") -> E (.ref e) { s with heap := h' }) : wpAny (model prog w) A (Builtin.«zip.__next__» ⟨[.ref z], []⟩) Q E s := by
  show wpAny _ _ (field (.ref z) 2 >>= _) _ _ _; refine wpAny_bind (wpAny_field hz rfl (x := .bool false) rfl ?_); show wpAny _ _ (field (.ref z) 3 >>= _) _ _ _
  refine wpAny_bind (wpAny_field hz rfl (x := .ref U) rfl (wpAny_bind (wpAny_seqItems hU rfl ?_)))
  show wpAny _ _ (Builtin.SmallTypes.ownedTupleIsFree (.ref z) >>= _) _ _ _; refine wpAny_bind ?_; unfold Builtin.SmallTypes.ownedTupleIsFree
  refine wpAny_bind (wpAny_field hz rfl (x := .none) rfl (wpAny_pure ?_)); simp only [if_true]
  refine wpAny_bind (wpAny_rule (wpAny_bind (wpAny_field hz rfl (x := .ref V) rfl (wpAny_bind (wpAny_setField_rec hz (by simp) fun g1 z1 m1 => ?_)))))
  replace z1 : IsZip g1 z U V .ellipsis := z1
  refine wpAny_bind ?_; simp only [List.zipIdx_cons, List.zipIdx_nil, List.forIn_cons, List.forIn_nil]
  refine wpAny_bind (wpAny_bind (wpAny_onRaise ?_)); show wpAny _ _ (Builtin.SmallTypes.nextOf (.ref a) >>= _) _ _ _
  cases hx : xs[i]? with
  | none =>
    refine wpAny_bind (jw hh (ha.extBut m1.extBut D.i1z) (hp.extBut m1.extBut D.l1z) hx fun g2 e m2 ee => ?_)
    obtain ⟨oe, e1, e2⟩ := ee
    have z2 : IsZip g2 z U V .ellipsis := m2 _ _ D.i1z.symm z1
    have ez : e ≠ z := fun u => by subst u; rw [z2] at e1; cases e1; simp at e2
    exact wpAny_setField_rec z2 (by simp) fun g3 _ m3 => K g3 e (fun c o c1 _ c3 _ u => m3.extBut _ _ c1 (m2 _ _ c3 (m1.extBut _ _ c1 u))) ⟨oe, m3.extBut _ _ ez e1, e2⟩
  | some x =>
    have hy : ys[j]? = none := he.resolve_left (by rw [hx]; exact nofun)
    refine wpAny_bind (iE (ha.extBut m1.extBut D.i1z) (hp.extBut m1.extBut D.l1z) hx fun g2 a2 m2 => wpAny_pure ?_)
    have V2 : IsPair g2 V v1 v2 := m2.extBut _ _ D.TOi1 (m1.extBut _ _ D.TOz hV)
    refine wpAny_bind (wpAny_seqItems V2 rfl (wpAny_bind (wpAny_updateSeq_pair V2 fun g3 V3 m3 => ?_)))
    refine wpAny_bind (wpAny_letGo (wpAny_pure (wpAny_bind (wpAny_bind (wpAny_onRaise ?_))))); show wpAny _ _ (Builtin.SmallTypes.nextOf (.ref b) >>= _) _ _ _
    refine wpAny_bind (jw hh (((hb.extBut m1.extBut D.i2z).extBut m2.extBut D.i12.symm).extBut m3.extBut D.TOi2.symm) (((hq.extBut m1.extBut D.l2z).extBut m2.extBut D.l2i1).extBut m3.extBut D.l2TO) hy fun g4 e m4 ee => ?_)
    obtain ⟨oe, e1, e2⟩ := ee
    have z4 : IsZip g4 z U V .ellipsis := m4 _ _ D.i2z.symm (m3.extBut _ _ D.TOz.symm (m2.extBut _ _ D.i1z.symm z1))
    have ez : e ≠ z := fun u => by subst u; rw [z4] at e1; cases e1; simp at e2
    exact wpAny_setField_rec z4 (by simp) fun g5 _ m5 => K g5 e (fun c o c1 c2 c3 c4 u => m5.extBut _ _ c1 (m4 _ _ c4 (m3.extBut _ _ c2 (m2.extBut _ _ c3 (m1.extBut _ _ c1 u))))) ⟨oe, m5.extBut _ _ ez e1, e2⟩
theorem v9 {z U V a b p q : Addr} {i j : Nat} {xs ys : Array Value} {x y v1 v2 : Value} {Q : Option Value -> Shared -> Prop} (D : ZipApart z U V a b p q) (hz : IsZip s.heap z U V .none) (hU : IsPair s.heap U (.ref a) (.ref b)) (hV : IsPair s.heap V v1 v2)
    (ha : s.heap.IsTupleIter a p i) (hb : s.heap.IsTupleIter b q j) (hp : s.heap.IsTuple p xs) (hq : s.heap.IsTuple q ys) (hx : xs[i]? = some x) (hy : ys[j]? = some y)
    (K : ∀ h', IsZip h' z U V (rawInt s.heap.objs.size) -> IsPair h' V x y -> h'.IsTupleIter a p (i + 1) -> h'.IsTupleIter b q (j + 1) -> IsPair h' s.heap.objs.size x y -> h'.objs.size = s.heap.objs.size + 1 -> (∀ c o, c ≠ z -> c ≠ V -> c ≠ a -> c ≠ b -> s.heap.get? c = some o -> h'.get? c = some o) -> Q (some (.ref s.heap.objs.size)) { s with heap := h' }) :
    wpAny (model prog w) A (pyNext (.ref z)) Q E s := by
  have ty : s.TypeIs (.ref z) "zip" := ⟨_, hz, rfl⟩
  unfold pyNext; refine wpAny_bind (wpAny_attempt (wpAny_callSpecial?_slot (name := Str.ofString "__next__") ty F.slot_zip_next (wpAny_call_entry F.slot_zip_next ty F.entry_zip_next ?_ (F.args_zip_next_1 _))))
  exact wH D hz hU hV ha hb hp hq hx hy fun h' b1 b2 b3 b4 b5 b6 b7 => wpAny_pure (K h' b1 b2 b3 b4 b5 b6 b7)
theorem zq {z U V a b p q : Addr} {i j : Nat} {xs ys : Array Value} {v1 v2 : Value} {Q : Option Value -> Shared -> Prop} (hh : A.handled = none) (D : ZipApart z U V a b p q) (hz : IsZip s.heap z U V .none) (hU : IsPair s.heap U (.ref a) (.ref b)) (hV : IsPair s.heap V v1 v2)
    (ha : s.heap.IsTupleIter a p i) (hb : s.heap.IsTupleIter b q j) (hp : s.heap.IsTuple p xs) (hq : s.heap.IsTuple q ys) (he : xs[i]? = none \/ ys[j]? = none)
    (K : ∀ h', (∀ c o, c ≠ z -> c ≠ V -> c ≠ a -> c ≠ b -> s.heap.get? c = some o -> h'.get? c = some o) -> Q none { s with heap := h' }) : wpAny (model prog w) A (pyNext (.ref z)) Q E s := by
  have ty : s.TypeIs (.ref z) "zip" := ⟨_, hz, rfl⟩
  unfold pyNext; refine wpAny_bind (wpAny_attempt (wpAny_callSpecial?_slot (name := Str.ofString "__next__") ty F.slot_zip_next (wpAny_call_entry F.slot_zip_next ty F.entry_zip_next ?_ (F.args_zip_next_1 _))))
  refine yS hh D hz hU hV ha hb hp hq he fun h' e kk ⟨o, ho, hc⟩ => ?_
  exact wpAny_bind (wpAny_isInstance (T := "StopIteration") (b := true) ⟨o, ho, hc⟩ isSubtype_stop (wpAny_pure (K _ kk)))
end
noncomputable def zh1 (h : Heap) (p : Addr) : Heap := h.push { cls := .type "tuple_iterator", data := .fields #[.ref p, .int 0 0] }
noncomputable def zh2 (h : Heap) (p q : Addr) : Heap := (zh1 h p).push { cls := .type "tuple_iterator", data := .fields #[.ref q, .int 0 0] }
noncomputable def zh3 (h : Heap) (p q : Addr) : Heap := (zh2 h p q).push { cls := .type "tuple", data := .seq #[.ref h.objs.size, .ref (zh1 h p).objs.size] }
noncomputable def zh4 (h : Heap) (p q : Addr) : Heap := (zh3 h p q).push { cls := .type "tuple", data := .seq #[.none, .none] }
noncomputable def zh5 (h : Heap) (p q : Addr) : Heap := (zh4 h p q).push { cls := .type "zip", data := .fields #[.none, .bool false, .bool false, .ref (zh2 h p q).objs.size, .ref (zh3 h p q).objs.size] }
theorem uE (p q : Addr) (xs ys : Array Value) : Meets (Builtin.«zip.__new__» ⟨[.type "zip", .ref p, .ref q], []⟩) (fun _ R s => s.heap.IsTuple p xs /\ s.heap.IsTuple q ys /\ R (.ok (.ret (.ref (zh4 s.heap p q).objs.size))) { s with heap := zh5 s.heap p q }) :=
  .of_wp fun prog w A R s h => by
    obtain ⟨hp, g, d, tk, os⟩ := s; obtain ⟨h1, h2, h⟩ := h
    have sub := sub_zip
    have t1 : Heap.IsTuple (Shared.heap ⟨hp, g, d, tk, os⟩) p xs := h1
    have t2 : Heap.IsTuple (Shared.heap ⟨hp.push { cls := .type "tuple_iterator", data := .fields #[.ref p, .int 0 0] }, g, d, tk, os⟩) q ys := Heap.IsTuple.at h2 fun o e => Heap.get?_push_of_some _ e
    wp_walk using wpAny_pyIter_tuple t1, wpAny_pyIter_tuple t2
    exact ⟨_, rfl, h⟩
section
variable {prog : Program} {w : World} {A : Around} {E : Value -> Shared -> Prop} {s : Shared}
theorem wD {p q : Addr} {xs ys : Array Value} {Q : Value -> Shared -> Prop} (h1 : s.heap.IsTuple p xs) (h2 : s.heap.IsTuple q ys)
    (K : ∀ h', IsZip h' (s.heap.objs.size + 4) (s.heap.objs.size + 2) (s.heap.objs.size + 3) .none -> IsPair h' (s.heap.objs.size + 2) (.ref s.heap.objs.size) (.ref (s.heap.objs.size + 1)) -> IsPair h' (s.heap.objs.size + 3) .none .none -> h'.IsTupleIter s.heap.objs.size p 0 -> h'.IsTupleIter (s.heap.objs.size + 1) q 0 -> (∀ c o, s.heap.get? c = some o -> h'.get? c = some o) -> Q (.ref (s.heap.objs.size + 4)) { s with heap := h' }) :
    wpAny (model prog w) A (call (.type "zip") [.ref p, .ref q]) Q E s := by
  refine callType_new F.called_zip (by decide) (F.typeCall_zip_2 _ _) (F.newCall_zip_2 _ _) (fun obj => F.args_object_init_3 obj _ _) F.entry_zip_new (uE p q xs ys) ⟨h1, h2, ?_⟩
  have e1 : (zh1 s.heap p).objs.size = s.heap.objs.size + 1 := Heap.size_push ..
  have e2 : (zh2 s.heap p q).objs.size = s.heap.objs.size + 2 := (Heap.size_push ..).trans (by rw [e1])
  have e3 : (zh3 s.heap p q).objs.size = s.heap.objs.size + 3 := (Heap.size_push ..).trans (by rw [e2])
  have e4 : (zh4 s.heap p q).objs.size = s.heap.objs.size + 4 := (Heap.size_push ..).trans (by rw [e3])
  have o5 : (zh5 s.heap p q).get? (zh4 s.heap p q).objs.size = some _ := Heap.get?_push_size _ rfl
  have o4 : (zh5 s.heap p q).get? (zh3 s.heap p q).objs.size = some _ := Heap.get?_push_of_some _ (Heap.get?_push_size _ rfl)
  have o3 : (zh5 s.heap p q).get? (zh2 s.heap p q).objs.size = some _ := Heap.get?_push_of_some _ (Heap.get?_push_of_some _ (Heap.get?_push_size _ rfl))
  have o2 : (zh5 s.heap p q).get? (zh1 s.heap p).objs.size = some _ := Heap.get?_push_of_some _ (Heap.get?_push_of_some _ (Heap.get?_push_of_some _ (Heap.get?_push_size _ rfl)))
  have o1 : (zh5 s.heap p q).get? s.heap.objs.size = some _ := Heap.get?_push_of_some _ (Heap.get?_push_of_some _ (Heap.get?_push_of_some _ (Heap.get?_push_of_some _ (Heap.get?_push_size _ rfl))))
  have kp : ∀ c o, s.heap.get? c = some o -> (zh5 s.heap p q).get? c = some o := fun c o x => Heap.get?_push_of_some _ (Heap.get?_push_of_some _ (Heap.get?_push_of_some _ (Heap.get?_push_of_some _ (Heap.get?_push_of_some _ x))))
  show _ /\ _
  rw [e2, e3, e4] at o5
  rw [e1, e2] at o3
  rw [e3] at o4
  rw [e1] at o2
  rw [e4]
  exact ⟨⟨_, o5, rfl⟩, K _ o5 o3 o4 ⟨_, o1, rfl, rfl⟩ ⟨_, o2, rfl, rfl⟩ kp⟩
end
noncomputable def Izt (K : PySem.W.Frag) (a b : Addr) : It :=
  ⟨fun i H => ∃ xs ys x y, SqT K H a xs /\ SqT K H b ys /\ xs[i]? = some x /\ ys[i]? = some y,
   fun i H x H' => ∃ p v w, x = .ref p /\ H p = none /\ (∀ xs, SqT K H a xs -> xs[i]? = some v) /\ (∀ ys, SqT K H b ys -> ys[i]? = some w) /\ H' = upd H p (.tup [v, w]),
   fun i H => ∃ xs ys, SqT K H a xs /\ SqT K H b ys /\ (xs.length <= i \/ ys.length <= i)⟩
noncomputable def BK (z TI TO i1 i2 a b : Addr) (i : Nat) (h : Heap) : Prop :=
  IsZip h z TI TO .none /\ IsPair h TI (.ref i1) (.ref i2) /\ (∃ x y, IsPair h TO x y) /\ h.IsTupleIter i1 a i /\ h.IsTupleIter i2 b i /\ a ≠ TO /\ b ≠ TO
theorem nq {z TI TO i1 i2 a b : Addr} {i : Nat} {h : Heap} {xs ys : Array Value} (A : ZA z TI TO i1 i2) (st : BK z TI TO i1 i2 a b i h) (ha : h.IsTuple a xs) (hb : h.IsTuple b ys) : ZipApart z TI TO i1 i2 a b := by
  obtain ⟨hz, hTI, ⟨x, y, hTO⟩, h1, h2, na, nb⟩ := st
  have cl : ∀ {l : Addr} {vs : Array Value}, h.IsTuple l vs -> l ≠ z /\ l ≠ i1 /\ l ≠ i2 := fun {l vs} hl => by
    obtain ⟨oa, qa, ca, _⟩ := hl
    obtain ⟨o1, q1, c1, _⟩ := h1
    obtain ⟨o2, q2, c2, _⟩ := h2
    refine ⟨fun q => ?_, fun q => ?_, fun q => ?_⟩
    · rw [q, hz] at qa; cases qa; injection ca with w; exact absurd w (by decide)
    · rw [q, q1] at qa; cases qa; rw [c1] at ca; injection ca with w; exact absurd w (by decide)
    · rw [q, q2] at qa; cases qa; rw [c2] at ca; injection ca with w; exact absurd w (by decide)
  obtain ⟨a1, a3, a4⟩ := cl ha
  obtain ⟨b1, b3, b4⟩ := cl hb
  exact ⟨A.TIz, A.TOz, A.i1z, A.i2z, A.TITO, A.TIi1, A.TIi2, A.TOi1, A.TOi2, A.i12, a1, na, a3, a4, b1, nb, b3, b4⟩
theorem wk {P : Program} {w : World} {K : PySem.W.Frag} {elts : List Expr} {k : Nat} {pos : Pos} {a b z TI TO i1 i2 : Addr} (A : ZA z TI TO i1 i2) : Turn P w K (.Tuple elts k pos) (Izt K a b) [z, TI, TO, i1, i2] z (BK z TI TO i1 i2 a b) where
  mem := by simp
  obj := fun i h st c hc => by
    obtain ⟨hz, hTI, ⟨x, y, hTO⟩, ⟨o1, q1, _, d1⟩, ⟨o2, q2, _, d2⟩, _⟩ := st
    simp only [List.mem_cons, List.not_mem_nil, or_false] at hc
    rcases hc with e | e | e | e | e <;> rw [e]
    · exact ⟨_, hz, fun v q => nomatch q⟩
    · exact ⟨_, hTI, fun v q => nomatch q⟩
    · exact ⟨_, hTO, fun v q => nomatch q⟩
    · exact ⟨o1, q1, fun v y => by rw [d1] at y; cases y⟩
    · exact ⟨o2, q2, fun v y => by rw [d2] at y; cases y⟩
  keep := fun i h h' st kk => by
    obtain ⟨hz, hTI, ⟨x, y, hTO⟩, h1, h2, na, nb⟩ := st
    exact ⟨kk z (by simp) _ hz, kk TI (by simp) _ hTI, ⟨x, y, kk TO (by simp) _ hTO⟩, h1.at fun o q => kk i1 (by simp) o q, h2.at fun o q => kk i2 (by simp) o q, na, nb⟩
  item := by
    intro X hP hw hK hc i pins s σ H E I hf st hg
    subst hP hw hK
    obtain ⟨xs, ys, x, y, hq, hr, hx, hy⟩ := hg
    obtain ⟨its, rv, p, hz⟩ := I.tuple hq
    obtain ⟨jts, rw', p', hz'⟩ := I.tuple hr
    have pt : s.heap.IsTuple a its.toArray := p
    have pt' : s.heap.IsTuple b jts.toArray := p'
    obtain ⟨u, hu, ru⟩ := rv.get hx
    obtain ⟨u', hu', ru'⟩ := rw'.get hy
    have D := nq A st pt pt'
    obtain ⟨z1, z2, ⟨t1, t2, z3⟩, z4, z5, na, nb⟩ := st
    refine v9 D z1 z2 z3 z4 z5 pt pt' (x := u) (y := u') (by simpa using hu) (by simpa using hu') fun h1 a1 a2 a3 a4 a5 a6 k1 => ?_
    refine ⟨_, rfl, wpAny_letOwnedTupleGo_zip a1 fun h2 b1 b2 => ?_⟩
    have lt : ∀ {c o}, s.heap.get? c = some o -> s.heap.objs.size ≠ c := fun e => Nat.ne_of_gt (Heap.lt_size e)
    have kk : ∀ c o, c ∉ [z, TI, TO, i1, i2] -> s.heap.get? c = some o -> h2.get? c = some o := fun c o hc q => by
      simp only [List.mem_cons, List.not_mem_nil, or_false, not_or] at hc
      exact b2.extBut _ _ hc.1 (k1 c o hc.1 hc.2.2.1 hc.2.2.2.1 hc.2.2.2.2 q)
    have hn : H s.heap.objs.size = none := I.hok.fresh (Nat.le_refl _)
    have hzT : s.heap.objs.size ≠ z := lt z1
    have nTf : ∀ c ∈ [z, TI, TO, i1, i2], c ≠ s.heap.objs.size := fun c hc => by
      simp only [List.mem_cons, List.not_mem_nil, or_false] at hc
      rcases hc with e | e | e | e | e <;> rw [e]
      · exact (lt z1).symm
      · exact (lt z2).symm
      · exact (lt z3).symm
      · obtain ⟨o, q, _⟩ := z4; exact (lt q).symm
      · obtain ⟨o, q, _⟩ := z5; exact (lt q).symm
    have hT2 : lF h2 s.heap.objs.size #[u, u'] := ⟨_, b2.extBut _ _ hzT a5, ⟨rfl, _, rfl⟩, rfl⟩
    refine ⟨.ref s.heap.objs.size, upd H s.heap.objs.size (.tup [x, y]), I.yielded (t' := s.toks) hf kk (Nat.le_refl _) ⟨by show 2 <= sizeLine; decide, [u, u'], .cons ru (.cons ru' .nil), hT2⟩, rfl, ⟨_, x, y, rfl, hn, fun l hl => by rw [I.g_ hl hq]; exact hx, fun l hl => by rw [I.g_ hl hr]; exact hy, rfl⟩, ?_, fun c hc => by rw [aJ (nTf c hc)]; exact (hf c hc).1⟩
    exact ⟨b1, b2.extBut _ _ A.TIz (k1 _ _ A.TIz A.TITO A.TIi1 A.TIi2 z2), ⟨_, _, b2.extBut _ _ A.TOz a2⟩, a3.extBut b2.extBut A.i1z, a4.extBut b2.extBut A.i2z, na, nb⟩
  done := by
    intro X hP hw hK hc i pins s σ H E I hf st hg
    subst hP hw hK
    obtain ⟨xs, ys, hq, hr, hx⟩ := hg
    obtain ⟨its, rv, p, hz⟩ := I.tuple hq
    obtain ⟨jts, rw', p', hz'⟩ := I.tuple hr
    have pt : s.heap.IsTuple a its.toArray := p
    have pt' : s.heap.IsTuple b jts.toArray := p'
    have D := nq A st pt pt'
    obtain ⟨z1, z2, ⟨t1, t2, z3⟩, z4, z5, _⟩ := st
    have hl := rv.length
    have hl' := rw'.length
    refine zq (I.ok.hd hc) D z1 z2 z3 z4 z5 pt pt' ?_ fun h' eb => ⟨rfl, I.m6 (t' := s.toks) hf fun b u hb q => eb b u (fun z => hb (by simp [z])) (fun z => hb (by simp [z])) (fun z => hb (by simp [z])) (fun z => hb (by simp [z])) q⟩
    rcases hx with hx | hx
    · exact .inl (Array.getElem?_eq_none (by rw [List.size_toArray]; omega))
    · exact .inr (Array.getElem?_eq_none (by rw [List.size_toArray]; omega))
  self := fun A i s Q E st q => wpAny_pyIter_zip st.1 q
noncomputable def Ex (K : PySem.W.Frag) (ta : TA) : TI := fun σ H R => ta σ H fun vs H1 => ∃ a b, vs = [.ref a, .ref b] /\ (((∃ xs, SqL K H1 a xs) /\ (∃ ys, SqL K H1 b ys) /\ R (Izl K a b) H1) \/ ((∃ xs, SqT K H1 a xs) /\ (∃ ys, SqT K H1 b ys) /\ R (Izt K a b) H1))
theorem Bj {X : Cx} {elts : List Expr} {kt : Nat} {tp p pos : Pos} {l m : Expr} {ta : TA} (hg : Gl X "zip") (hm : X.mg "zip" = none) (hl : PA X [l, m] ta) (hs : starEach [l, m] X.env = (false, eval l X.env) :: starEach [m] X.env := by rfl) (hp : (backTo pos (starEach [m] X.env)).any (·.1) = false := by rfl) :
    PI X (.Tuple elts kt tp) (.Call (.Name "zip" p) [l, m] [] pos) (Ex X.K ta) := by
  intro pins s σ H R I h
  refine Call_ (j5 I hg hm PyProof.Rows.boot_zip (PyProof.Rows.callWith_type1 (thn (hl pos pins s σ H _ I h) fun us s1 ⟨vs, H1, I1, r1, q1⟩ => ?_) hs hp))
  obtain ⟨a, b, e1, q⟩ := q1
  subst e1
  obtain ⟨u1, u2, rfl, rv, rw'⟩ : ∃ u1 u2, us = [u1, u2] /\ RelV (.ref a) u1 /\ RelV (.ref b) u2 := by
    cases r1 with
    | cons p q =>
      cases q with
      | cons p' q' =>
        cases q'
        exact ⟨_, _, rfl, p, p'⟩
  cases rv
  cases rw'
  have ne : ∀ n i j : Nat, i ≠ j -> n + i ≠ n + j := by intro n i j h; omega
  have ap : ZA (s1.heap.objs.size + 4) (s1.heap.objs.size + 2) (s1.heap.objs.size + 3) s1.heap.objs.size (s1.heap.objs.size + 1) := ⟨ne _ 2 4 (by decide), ne _ 3 4 (by decide), ne _ 0 4 (by decide), ne _ 1 4 (by decide), ne _ 2 3 (by decide), ne _ 2 0 (by decide), ne _ 2 1 (by decide), ne _ 3 0 (by decide), ne _ 3 1 (by decide), ne _ 0 1 (by decide)⟩
  have fp : ∀ c ∈ [s1.heap.objs.size + 4, s1.heap.objs.size + 2, s1.heap.objs.size + 3, s1.heap.objs.size, s1.heap.objs.size + 1], nR X pins H1 c := by
    intro c hc
    have hb' : s1.heap.objs.size <= c := by
      simp only [List.mem_cons, List.not_mem_nil, or_false] at hc
      rcases hc with e | e | e | e | e <;> rw [e]
      · exact Nat.le_add_right _ _
      · exact Nat.le_add_right _ _
      · exact Nat.le_add_right _ _
      · exact Nat.le_refl _
      · exact Nat.le_add_right _ _
    exact I1.yB hb' (I1.hok.fresh hb')
  rcases q with ⟨⟨xs, hq⟩, ⟨ys, hr⟩, q⟩ | ⟨⟨xs, hq⟩, ⟨ys, hr⟩, q⟩
  · obtain ⟨its, rv, pl, hz⟩ := I1.list hq
    obtain ⟨jts, rw', pl', hz'⟩ := I1.list hr
    refine call_zip_2 pl.isList pl'.isList fun h2 y1 y2 y3 y4 y5 hsz kp => wpAny_pyIter_zip (s := { s1 with heap := h2 }) y1 ?_
    exact ⟨s1.heap.objs.size + 4, _, _, _, H1, rfl, I1.kept (t' := s1.toks) kp, wX (a := a) (b := b) ap, ⟨y1, y2, ⟨_, _, y3⟩, y4, y5⟩, fp, q⟩
  · obtain ⟨its, rv, pl, hz⟩ := I1.tuple hq
    obtain ⟨jts, rw', pl', hz'⟩ := I1.tuple hr
    have pt : s1.heap.IsTuple a its.toArray := pl
    have pt' : s1.heap.IsTuple b jts.toArray := pl'
    have la : a < s1.heap.objs.size := pl.lt
    have lb : b < s1.heap.objs.size := pl'.lt
    refine wD pt pt' fun h2 y1 y2 y3 y4 y5 kp => wpAny_pyIter_zip (s := { s1 with heap := h2 }) y1 ?_
    refine ⟨s1.heap.objs.size + 4, _, _, _, H1, rfl, I1.kept (t' := s1.toks) kp, wk (a := a) (b := b) ap, ⟨y1, y2, ⟨_, _, y3⟩, y4, y5, ?_, ?_⟩, fp, q⟩
    · exact Nat.ne_of_lt (Nat.lt_of_lt_of_le la (Nat.le_add_right _ _))
    · exact Nat.ne_of_lt (Nat.lt_of_lt_of_le lb (Nat.le_add_right _ _))
end L2
namespace L2.FE
open PySem PySem.Spec PyProof.Rows
section
variable {X : Cx} {g : GG} {ε : EE} {K : PySem.W.Frag}
noncomputable def An : List D -> Hh -> R Src
  | [.frl ds, .frl es], h => .ok (.snap (jF ds es)) h
  | [.tup ds, .tup es], h => .ok (.snap (jF ds es)) h
  | _, _ => .bad
noncomputable def sL (a : MA) : MI := fun env h => (a env h).bind An
theorem um {α : List Addr} {H : Hp} {a b : Addr} {ds es : List D} {vs ws : List V} (hq : H a = some (.tup vs)) (rs : av K g α H ds vs) (hq' : H b = some (.tup ws)) (rs' : av K g α H es ws) : Reads K g (Izt K a b) (Src.snap (jF ds es)).rdr α H := by
  intro α2 H2 h2 x2 hr i
  have hq2 : SqT K H2 a vs := SqT.of (x2.tup _ _ hq)
  have hq2' : SqT K H2 b ws := SqT.of (x2.tup _ _ hq')
  have rs2 := rs.ext x2
  have rs2' := rs'.ext x2
  show match some (jF ds es)[i]? with | none => True | some none => _ | some (some d) => _
  rw [nY]
  cases e : ds[i]? with
  | none =>
    have : ds.length <= i := List.getElem?_eq_none_iff.mp e
    exact ⟨vs, ws, hq2, hq2', .inl (by rw [<- rs.length]; exact this)⟩
  | some d =>
    cases e' : es[i]? with
    | none =>
      have : es.length <= i := List.getElem?_eq_none_iff.mp e'
      exact ⟨vs, ws, hq2, hq2', .inr (by rw [<- rs'.length]; exact this)⟩
    | some d' =>
      obtain ⟨v, ev, rv⟩ := rs2.get e
      obtain ⟨v', ev', rv'⟩ := rs2'.get e'
      refine ⟨⟨vs, ws, v, v', hq2, hq2', ev, ev'⟩, fun x H' y => ?_⟩
      obtain ⟨p, u, u', e1, hp, e2, e2', e3⟩ := y
      subst e1 e3
      have := e2 vs hq2
      rw [ev] at this
      cases this
      have := e2' ws hq2'
      rw [ev'] at this
      cases this
      exact vy hr rv rv' hp
theorem zY {elts : List Expr} {kt : Nat} {tp p pos : Pos} {e e' : Expr} {ma : MA} (hg : Gl X "zip") (hm : X.mg "zip" = none) (he : PA X [e, e'] (tMA X.K g ε ma)) (hs : starEach [e, e'] X.env = (false, eval e X.env) :: starEach [e'] X.env := by rfl) (hp : (backTo pos (starEach [e'] X.env)).any (·.1) = false := by rfl) : PI X (.Tuple elts kt tp) (.Call (.Name "zip" p) [e, e'] [] pos) (tMI X.K g ε (sL ma)) :=
  PI.imp (Bj hg hm he hs hp) fun σ H T ⟨α, env, h, s, w⟩ => tMA.use s w.bind fun d1 h1 v1 H1 α1 e1 s1 r1 w1 => by
    unfold An at w1
    split at w1
    · cases r1 with
      | cons ra rr =>
        cases rr with
        | cons rb rr =>
          cases rr
          cases ra with
          | frl hq rs =>
            cases rb with
            | frl hq' rs' => exact ⟨_, _, rfl, .inl ⟨⟨_, hq.sq⟩, ⟨_, hq'.sq⟩, w1 _ H1 α1 e1 s1.heap (wg hq.fro rs hq'.fro rs')⟩⟩
    · cases r1 with
      | cons ra rr =>
        cases rr with
        | cons rb rr =>
          cases rr
          cases ra with
          | tup hq rs =>
            cases rb with
            | tup hq' rs' => exact ⟨_, _, rfl, .inr ⟨⟨_, SqT.of hq⟩, ⟨_, SqT.of hq'⟩, w1 _ H1 α1 e1 s1.heap (um hq rs hq' rs')⟩⟩
    · exact w1.elim
end
theorem ki {P : Program} {w : World} {H : Hp} {h : Heap} {p : Addr} {o : Obj} (ok : HOk P w H h) (e : H p = some (AtO p o)) : h.get? p = some o := (show cP P w H h p (AtO p o) from ok p _ e).1
theorem fV {a : Str} {b : Pos} {rest : List Expr} {env : Env} : starEach (.Name a b :: rest) env = (false, eval (.Name a b) env) :: starEach rest env := by rfl
theorem jy {pos : Pos} {t : Sem Value} {r : List (Bool × Sem Value)} : backTo pos ((false, t) :: r) = (false, t) :: backTo pos r := rfl
theorem l6 {env : Env} {pos : Pos} {x : Str} {p2 : Pos} : ∀ qs : List (Str × Pos), (backTo pos (starEach (qs.map (fun y => Expr.Name y.1 y.2) ++ [.Name x p2]) env)).any (·.1) = false
  | [] => by rw [List.map_nil, List.nil_append, fV, jy]; rfl
  | q :: qs => by
    rw [List.map_cons, List.cons_append, fV, jy, List.any_cons, l6 qs]; rfl
section
variable {P : Program} {w : World} {K : PySem.W.Frag} {mg : Str -> Option Value} {base : Heap} {H : Hp} {clos : List (Str × Addr)} {scope : Scope} {env : Env} {A : Around} {E : Value -> Shared -> Prop} {s : Shared} {m : Str -> Option Value}
theorem qo {x : Str} {p2 pos : Pos} {u : Value} (hs : env.scope.kind = .function) (hcl : env.cells = clos) (hok : HOk P w H s.heap) (hx : env.kindOf x = some .local) (hxd : (x == ("__debug__" : Str)) = false) (hn : s.heap.Ns env.locals m) (hm : m x = some u) :
    ∀ (qs : List (Str × Pos)) (vs : List V) (Q : List Value -> Shared -> Prop), kI H clos (qs.map (·.1)) vs -> (∀ y ∈ qs.map (·.1), env.kindOf y = some .free /\ (y == ("__debug__" : Str)) = false /\ (y == ("__classdict__" : Str)) = false) →
      (∀ us, Vals vs us -> Q (us ++ [u]) s) -> wpAny (model P w) A (spliced (backTo pos (starEach (qs.map (fun y => Expr.Name y.1 y.2) ++ [.Name x p2]) env))) Q E s
  | [], _, Q, .nil, _, h => by
    rw [List.map_nil, List.nil_append, fV, jy]
    exact Calls.spliced_cons (wpAny_Name (wpAny_loadName_local hs hx hn hm (Calls.spliced_nil (h [] .nil))) hxd)
  | q :: qs, _, Q, .cons ⟨c, o, z, hl, hc, hd, r⟩ t, hf, h => by
    rw [List.map_cons, List.cons_append, fV, jy]
    obtain ⟨f1, f2, f3⟩ := hf q.1 (by simp)
    refine Calls.spliced_cons (wpAny_Name (wpAny_loadName_free (v := z) hs f1 (by rw [hcl]; exact hl) ⟨o, ki hok hc, hd⟩ ?_ f3) f2)
    exact qo hs hcl hok hx hxd hn hm qs _ _ t (fun y hy => hf y (by simp only [List.map_cons, List.mem_cons]; exact .inr hy)) fun us r2 => h (z :: us) (.cons r r2)
end
theorem A6 {P : Program} {w : World} {K : PySem.W.Frag} {mg : Str -> Option Value} {base : Heap} {k : Nat} {f : Addr} {fd : FuncData} {ps : List Str} {sp : Sp} {fn x qual : Str} {ys : List Str} {params : Arguments} {body : Expr} {scope : Scope}
    (F : eS P w K mg base CX0 k f fd ps sp) (hkp : PySem.W.keepIn K (.ref f) = true) (hb : Binds K fd ps []) (hm : mg fn = some (.ref f)) (T : sJ fn x qual ys params body scope)
    {A : Around} {outer : List Env} {s : Shared} {H : Hp} {u : Value} {v : V} {Q : VK} {E E1 : XK} {p c' : Addr} {clos : List (Str × Addr)} {pm ctv : Value} {oc : Obj} {vc : Array Value} {t : Tok} {cv : List V} (hr : fR (k + 1) A) (e0 : w_ P w K mg base A outer s H)
    (hp : H p = some (AtO p (PySem.W.kla_obj "<lambda>" qual params body scope clos pm c' ctv))) (hc : H c' = some (AtO c' oc)) (hd : oc.data = .fields vc) (hv : vc[1]? = some (.str qual t)) (cs : kI H clos ys cv) (rv : RelV v u)
    (h : sp (cv ++ [v]) H Q E1) : codeAny (model P w) A (.call (.ref p) ⟨[u], []⟩) (CR CX0 outer P w H s Q E) s := by
  refine PySem.W.kla_callFunE hr.depth (ki e0.hok hp) rfl T.co T.gen rfl ⟨c', oc, vc, t, rfl, ki e0.hok hc, hd, hv⟩ ?_
  rw [T.bind]
  refine wpAny_pure (wpAny_newFunctionEnv T.C_ (by intro y hy; simp at hy; subst hy; exact T.loc) (fun h₁ hns hsb => ?_) T.kind)
  have keep1 : ∀ b o, s.heap.get? b = some o -> h₁.get? b = some o := fun b o e => hsb.extBut b o (Nat.ne_of_lt (Heap.lt_size e)) (Heap.get?_push_of_some _ e)
  refine ⟨(e0.mod.nolimit.keeps fun b o e => (e0.bs b o e).1).keeps keep1, ?_⟩
  show codeAny _ _ (.expr body (PySem.W.envX qual scope s.heap.objs.size p (.ref c') clos)) _ _
  refine PySem.W.kla_codeExpr ?_
  obtain ⟨p0, p2, p3, qs, rfl, rfl⟩ := T.tx
  have KX : K.In h₁ := (e0.mod.kin.keeps fun b o e => (e0.bs b o e).1).keeps keep1
  have hok1 : HOk P w H h₁ := e0.hok.kept keep1
  refine wpAny_Call_Name_kw (Calls.Name_function_global T.kind T.glob (Calls.loadGlobal_global ((e0.mod.glob.keeps fun b o e => (e0.bs b o e).1).keeps keep1) hm ?_) T.nd.1)
  have hL : frs (PySem.W.envX qual scope s.heap.objs.size p (.ref c') clos :: outer) = s.heap.objs.size :: frs outer := rfl
  have sz : s.heap.objs.size <= h₁.objs.size := by
    by_cases z : s.heap.objs.size = 0
    · rw [z]; exact Nat.zero_le _
    · exact Nat.le_of_lt hns.lt
  have e1 : w_ P w K mg base (A.deeper (PySem.W.envX qual scope s.heap.objs.size p (.ref c') clos)) (PySem.W.envX qual scope s.heap.objs.size p (.ref c') clos :: outer) { s with heap := h₁, toks := s.toks + 1 } H :=
    ⟨Around.frames_deeper e0.frames, e0.mod, fun b o e => ⟨keep1 b o (e0.bs b o e).1, (e0.bs b o e).2⟩, Nat.le_trans e0.bsz sz,
      Heap.FunFrames.cons (by show scope.kind ≠ _; rw [T.kind]; decide) rfl hns (Heap.get?_none_of_le e0.bsz) (Heap.FunFrames.of_keeps (fun b o e _ => ⟨o, keep1 b o e, rfl⟩) e0.mq),
      fun b hb' => by
        rw [hL] at hb'
        rcases List.mem_cons.mp hb' with z | z
        · rw [z]; exact e0.hok.fresh (Nat.le_refl _)
        · exact e0.frf b z, hok1, e0.bare⟩
  have fin : ∀ us : List Value, Vals cv us -> wpAny (model P w) (A.deeper (PySem.W.envX qual scope s.heap.objs.size p (.ref c') clos)) (call (.ref f) ([] ++ (us ++ [u]))) (fun z s' => CR CX0 outer P w H s Q E (.ok (.ret z)) s')
      (fun e' s' => wpAny (model P w) (A.deeper (PySem.W.envX qual scope s.heap.objs.size p (.ref c') clos)) (leaving (PySem.W.envX qual scope s.heap.objs.size p (.ref c') clos) e') (fun _ s'' => CR CX0 outer P w H s Q E (.error e') s'') (fun e'' s'' => CR CX0 outer P w H s Q E (.error e'') s'') s') { s with heap := h₁, toks := s.toks + 1 } := fun us r2 => by
    have rr : Vals (cv ++ [v]) (us ++ [u]) := r2.append (.cons rv .nil)
    have hl : (us ++ [u]).length = ps.length := by rw [<- rr.length]; exact F.len _ _ _ _ h
    have hb2 := hb { s with heap := h₁, toks := s.toks + 1 } (us ++ [u]) KX (by rw [List.append_nil]; exact hl)
    rw [List.append_nil] at hb2
    refine wpAny_call (codeAny_mono (F.run _ _ _ H ⟨us ++ [u], []⟩ (us ++ [u]) (cv ++ [v]) Q E1 (hr.deeper _) e1 hb2 rr h) fun r s' hq => ?_)
    cases r with
    | error e => exact False.elim hq
    | ok fl =>
      cases fl with
      | ret z =>
        obtain ⟨y, H', os, bare, un, hok, r, q⟩ := (show CE _ P w H _ Q z s' from hq)
        have old : ∀ {b : Addr} {o : Obj}, s.heap.get? b = some o -> b ∉ frs outer -> b ∉ frs (PySem.W.envX qual scope s.heap.objs.size p (.ref c') clos :: outer) := fun {b o} e n z => by
          rw [hL] at z
          rcases List.mem_cons.mp z with z | z
          · exact absurd (Heap.lt_size e) (by rw [z]; exact Nat.lt_irrefl _)
          · exact n z
        exact ⟨y, H', os, bare, ⟨fun b o e n hb' hx => un.keep b o (keep1 b o e) n (old e hb') hx, fun b o e n hb' hx => un.slot b o (keep1 b o e) n (by rw [hL]; exact List.mem_cons_of_mem _ hb') hx, fun b o e n hx => un.free b o (keep1 b o e) n hx, fun b o e hx => un.there b o (keep1 b o e) hx, un.my, un.lO, un.mM⟩, hok, r, q⟩
      | next => exact False.elim hq
      | brk => exact False.elim hq
      | cont => exact False.elim hq
  have main := qo (P := P) (w := w) (H := H) (clos := clos) (env := PySem.W.envX qual scope s.heap.objs.size p (.ref c') clos) (A := A.deeper (PySem.W.envX qual scope s.heap.objs.size p (.ref c') clos)) (s := { s with heap := h₁, toks := s.toks + 1 }) (x := x) (p2 := p2) (pos := p3) (u := u)
    (E := fun e' s' => wpAny (model P w) (A.deeper (PySem.W.envX qual scope s.heap.objs.size p (.ref c') clos)) (leaving (PySem.W.envX qual scope s.heap.objs.size p (.ref c') clos) e') (fun _ s'' => CR CX0 outer P w H s Q E (.error e') s'') (fun e'' s'' => CR CX0 outer P w H s Q E (.error e'') s'') s')
    T.kind rfl hok1 T.loc T.nd.2 hns (by simp) qs cv (fun us s2 => K.In s2.heap /\ wpAny (model P w) (A.deeper (PySem.W.envX qual scope s.heap.objs.size p (.ref c') clos)) (call (.ref f) ([] ++ us)) (fun z s' => CR CX0 outer P w H s Q E (.ok (.ret z)) s')
      (fun e' s' => wpAny (model P w) (A.deeper (PySem.W.envX qual scope s.heap.objs.size p (.ref c') clos)) (leaving (PySem.W.envX qual scope s.heap.objs.size p (.ref c') clos) e') (fun _ s'' => CR CX0 outer P w H s Q E (.error e') s'') (fun e'' s'' => CR CX0 outer P w H s Q E (.error e'') s'') s') s2) cs T.free fun us r2 => ⟨KX, fin us r2⟩
  cases qs with
  | nil => exact PySem.W.callWith_K (h₀ := h₁) KX hkp main fV rfl
  | cons q qs => exact PySem.W.callWith_K (h₀ := h₁) KX hkp main fV (l6 qs)
noncomputable def eX (tab : Str -> Option (Nat × MF)) (f : ME) (a : MA) : ME := fun env h => (f env h).bind fun d h1 => match d with
  | .clo x ds => match tab x with
    | some (np, m) => if ds.length + 1 = np then (a env h1).bind fun es h2 => m (ds ++ es) h2 else .bad
    | none => .bad
  | _ => .bad
theorem jh {X : Cx} {g : GG} {k : Nat} {tab : Str -> Option (Nat × MF)} {fe e : Expr} {pos : Pos} {mf : ME} {mr : MA}
    (T : ∀ x np m, tab x = some (np, m) -> ∃ f fd ps, X.mg x = some (.ref f) /\ eS X.prog X.w X.K X.mg X.base CX0 k f fd ps (spM X.K g np m) /\ PySem.W.keepIn X.K (.ref f) = true /\ Binds X.K fd ps [])
    (hr : fR (k + 1) X.A) (hf : PE X fe (tM X.K g E00 mf)) (ha : PA X [e] (tMA X.K g E00 mr)) (hlen : ∀ env h ds h', mr env h = .ok ds h' -> ds.length = 1)
    (hc : eval (.Call fe [e] [] pos) X.env = (do callWith pos (← eval fe X.env) [] (backTo pos (starEach [e] X.env)) (backToKw pos (keywordEach [] X.env))) := by rfl)
    (he : starEach [e] X.env = (false, eval e X.env) :: starEach [] X.env := by rfl) :
    PE X (.Call fe [e] [] pos) (tM X.K g E00 (eX tab mf mr)) := by
  intro pins s σ H Q I ⟨α, env, h, s0, w⟩
  refine Call_ (thn (hf pins s σ H (fun v H1 => ∃ α1 h1 p o clos ys cv c' oc qual t vc x ds np m, v = .ref p /\ H1 p = some (AtO p o) /\ BC x clos ys o c' qual /\ H1 c' = some (AtO c' oc) /\ oc.data = .fields vc /\ vc[1]? = some (.str qual t) /\ kI H1 clos ys cv /\ av X.K g α1 H1 ds cv ∧
      tab x = some (np, m) /\ ds.length + 1 = np /\ dX X.K g α1 H1 env σ h1 /\ WQ X.K g E00 α1 H1 ((mr env h1).bind fun es h2 => m (ds ++ es) h2) (aR X.K g α1 H1 Q)) I ?_) fun v s1 ⟨x, H1, I1, r1, q1⟩ => ?_) hc
  · refine tM.use s0 w.bind fun d1 h1 v1 H1 α1 e1 s1 r1 w1 => ?_
    cases r1 with
    | @clo x ds p o clos ys vs c' oc qual t vc hp hl hc' hd hv cs rs =>
      simp only at w1
      cases et : tab x with
      | none => rw [et] at w1; exact w1.elim
      | some q =>
        obtain ⟨np, m⟩ := q
        rw [et] at w1
        obtain ⟨hn, w1⟩ := WQ.gz w1
        exact ⟨α1, h1, p, o, clos, ys, vs, c', oc, qual, t, vc, x, ds, np, m, rfl, hp, hl, hc', hd, hv, cs, rs, et, hn, s1, WQ.post e1 w1⟩
    | _ => exact w1.elim
  · obtain ⟨α1, h1, p, o, clos, ys, cv, c', oc, qual, t, vc, x, ds, np, m, rfl, hp, ⟨params, body, scope, pm, ctv, xa, rfl, tx⟩, hc', hd, hv, cs, rs, et, hn, s2, w2⟩ := q1
    cases r1
    obtain ⟨f, fd, ps, hm, F, hk, hb⟩ := T x np m et
    have fn : ∀ {h : Heap}, h.get? p = some (PySem.W.kla_obj "<lambda>" qual params body scope clos pm c' ctv) -> PySem.W.FnAt p h := fun e => ⟨_, _, _, _, e⟩
    refine PySem.W.callWith_F (fn (ki I1.hok hp)) (thn (ha pos pins s1 σ H1 (fun vs H2 => ∃ v, vs = [v] /\ H2 p = some (AtO p (PySem.W.kla_obj "<lambda>" qual params body scope clos pm c' ctv)) /\ H2 c' = some (AtO c' oc) /\ kI H2 clos ys cv /\ spM X.K g np m (cv ++ [v]) H2 Q E0) I1 ?_) fun us s3 ⟨vs, H2, I2, r, v, ev, hp2, hc2, cs2, q⟩ => ⟨fn (ki I2.hok hp2), ?_⟩) he rfl
    · refine ⟨α1, env, h1, s2, w2.bind.mono fun es h3 eq w3 v3 H3 α3 e3 hr3 r3 => ?_⟩
      have l1 := hlen env h1 es h3 eq
      obtain ⟨d, rfl⟩ : ∃ d, es = [d] := List.length_eq_one_iff.mp l1
      cases r3 with
      | @cons _ v _ _ rd rn =>
        cases rn
        refine ⟨v, rfl, e3.frz _ _ _ hp, e3.frz _ _ _ hc', L2.Paired.sh cs fun _ _ ⟨c, o, u, l, a, b⟩ => ⟨c, o, u, l, e3.frz _ _ _ a, b⟩, ?_, α3, ds ++ [d], h3, (rs.ext e3).append (.cons rd .nil), hr3, w3.post e3⟩
        rw [List.length_append, <- rs.length]; exact hn
    · subst ev
      cases r with
      | @cons _ u _ _ ru rn =>
        cases rn
        refine wpAny_call (codeAny_mono (A6 F hk hb hm tx (E := E0) hr I2.DF hp2 hc2 hd hv cs2 ru q) fun r s' hq => ?_)
        cases r with
        | error e => exact False.elim hq
        | ok fl =>
          cases fl with
          | ret u => exact I2.after hq
          | next => exact False.elim hq
          | brk => exact False.elim hq
          | cont => exact False.elim hq
open Classical in
noncomputable def mkH (S : Addr -> Prop) (h2 : Heap) (PT : Addr) (T : Array Value) (H1 : Hp) : Hp := fun b => if S b then (h2.get? b).map (AtO b) else if b = PT then some (.tbl T) else H1 b
structure MkS (P : Program) (w : World) (S : Addr -> Prop) (h1 h2 : Heap) (PT : Addr) (ps more : Array Value) (H1 : Hp) : Prop where
  hok : HOk P w H1 h1
  hPT : H1 PT = some (.tbl ps)
  k : ∀ b o, b ≠ PT -> h1.get? b = some o -> h2.get? b = some o
  hT : h2.get? PT = some (PySem.W.tabObj (ps ++ more))
  hS : ∀ b, S b -> b ≠ PT /\ (∃ o, h2.get? b = some o) /\ (H1 b = none \/ ∃ o, H1 b = some (AtO b o))
section
variable {P : Program} {w : World} {S : Addr -> Prop} {h0 h1 h2 : Heap} {PT : Addr} {ps more : Array Value} {H H1 : Hp} {K : PySem.W.Frag} {g : GG} {α : List Addr} {h : Hh} {fs : List Addr}
theorem MkS.at_ (M : MkS P w S h1 h2 PT ps more H1) {b : Addr} (hb : S b) {o : Obj} (e : h2.get? b = some o) : mkH S h2 PT (ps ++ more) H1 b = some (AtO b o) := by
  unfold mkH; rw [if_pos hb, e]; rfl
theorem MkS.pt (M : MkS P w S h1 h2 PT ps more H1) : mkH S h2 PT (ps ++ more) H1 PT = some (.tbl (ps ++ more)) := by
  unfold mkH; rw [if_neg fun z => (M.hS PT z).1 rfl, if_pos rfl]
theorem MkS.off (M : MkS P w S h1 h2 PT ps more H1) {b : Addr} {o : HO} (e : H1 b = some o) (n : b ≠ PT) : mkH S h2 PT (ps ++ more) H1 b = some o := by
  by_cases hb : S b
  · obtain ⟨_, ⟨o2, e2⟩, z | ⟨o1, z⟩⟩ := M.hS b hb
    · rw [e] at z; cases z
    · rw [e] at z; cases z
      have e1 := M.k b o1 n (ki M.hok e)
      exact M.at_ hb e1
  · unfold mkH; rw [if_neg hb, if_neg n]; exact e
theorem MkS.non (M : MkS P w S h1 h2 PT ps more H1) {b : Addr} (e : H1 b = none) (n : ¬ S b) : mkH S h2 PT (ps ++ more) H1 b = none := by
  unfold mkH; rw [if_neg n, if_neg (bw M.hPT e).symm]; exact e
theorem MkS.Fx (M : MkS P w S h1 h2 PT ps more H1) : HOk P w (mkH S h2 PT (ps ++ more) H1) h2 := by
  intro b u e
  by_cases hb : S b
  · obtain ⟨_, ⟨o2, e2⟩, _⟩ := M.hS b hb
    rw [M.at_ hb e2] at e
    cases e
    exact ⟨e2, e2, ⟨o2, e2⟩, fun a c x y => y _ x⟩
  · by_cases hp : b = PT
    · subst hp
      rw [M.pt] at e
      cases e
      exact M.hT
    · have e1 : H1 b = some u := by unfold mkH at e; rw [if_neg hb, if_neg hp] at e; exact e
      refine (M.hok b u e1).lC (fun c x hc hx => M.k c x ?_ hx) (fun c z => M.off z fun q => ?_) fun c xs z => M.off z fun q => ?_
      · rcases hc with rfl | hc
        · exact hp
        · rintro rfl; rw [M.hPT] at hc; cases hc
      · subst q; rw [M.hPT] at z; cases z
      · subst q; rw [M.hPT] at z; cases z
theorem MkS.un (M : MkS P w S h1 h2 PT ps more H1) (u : Un fs [] H H1 h0 h1) (hn : ∀ b, S b -> h0.objs.size <= b \/ H1 b ≠ none) : Un fs [] H (mkH S h2 PT (ps ++ more) H1) h0 h2 := by
  have nt : ∀ b o, h0.get? b = some o -> H b = none -> b ≠ PT := fun b o e n => (bw M.hPT (u.free b o e n (by simp))).symm
  refine ⟨fun b o e n hf hx => M.k b o (nt b o e n) (u.keep b o e n hf hx), fun b o e n hf hx => ?_, fun b o e n hx => ?_, fun b o e hx => ?_, fun b xs e => M.off (u.my b xs e) fun z => ?_, fun b o x e => M.off (u.lO b o x e) fun z => ?_, fun b qs e => ?_⟩
  · obtain ⟨sl, e1⟩ := u.slot b o e n hf hx
    exact ⟨sl, M.k b _ (nt b o e n) e1⟩
  · have z := u.free b o e n hx
    refine M.non z fun hb => ?_
    rcases hn b hb with q | q
    · exact absurd (Heap.lt_size e) (Nat.not_lt.mpr q)
    · exact q z
  · obtain ⟨o1, e1⟩ := u.there b o e hx
    by_cases z : b = PT
    · exact ⟨_, z ▸ M.hT⟩
    · exact ⟨o1, M.k b o1 z e1⟩
  · have := u.my b xs e; rw [z, M.hPT] at this; cases this
  · have := u.lO b o x e; rw [z, M.hPT] at this; cases this
  · obtain ⟨m1, e1⟩ := u.mM b qs e
    by_cases z : b = PT
    · subst z
      rw [M.hPT] at e1
      cases e1
      exact ⟨m1 ++ more, by rw [M.pt, Array.append_assoc]⟩
    · exact ⟨m1, M.off e1 z⟩
theorem MkS.ext (M : MkS P w S h1 h2 PT ps more H1) : Ext K α H1 α (mkH S h2 PT (ps ++ more) H1) :=
  ⟨⟨List.prefix_refl _, fun p xs e => M.off e (fun z => by rw [z, M.hPT] at e; cases e), fun p o x e => M.off e (fun z => by rw [z, M.hPT] at e; cases e), fun p qs e => by
    by_cases z : p = PT
    · subst z
      rw [M.hPT] at e; cases e
      exact ⟨more, M.pt⟩
    · exact ⟨#[], by rw [M.off e z]; simp⟩⟩, fun p o e _ t => M.off e (fun z => by rw [z, M.hPT] at e; cases e; exact t _ rfl), fun _ z n => absurd z n⟩
theorem MkS.FK (M : MkS P w S h1 h2 PT ps more H1) (r : aW K g α H1 h) {ns : Pos × Str} (uq : ∀ f q, kP K f = some q -> q.1 = PT -> q.2 = ns) (t : sE (mkH S h2 PT (ps ++ more) H1) (PT, ns)) : aW K g α (mkH S h2 PT (ps ++ more) H1) h := by
  refine ⟨r.len, r.inj, fun n p o a b => (r.here n p o a b).ex0 M.ext.toEx0 fun x e => M.off e fun z => ?_, fun f q e => ?_⟩
  · obtain ⟨u, e1, _, _, nt⟩ := r.mem (List.mem_of_getElem? a)
    rw [z, M.hPT] at e1; cases e1; exact nt _ rfl
  · by_cases z : q.1 = PT
    · have := uq f q e z
      obtain ⟨a, b⟩ := q
      cases z; cases this
      exact t
    · rcases r.tab f q e with x | ⟨c', oc, vc, tk, x, hc, hd⟩
      · exact .inl (M.off x z)
      · exact .inr ⟨c', oc, vc, tk, M.off x z, M.off hc (fun y => by rw [y, M.hPT] at hc; cases hc), hd⟩
end
theorem wY {h h' : Heap} {mg : Str -> Option Value} {PT : Addr} (k : ∀ b o, h.get? b = some o -> h'.get? b = some o) (x : h.BuiltinsAt mg PT) : h'.BuiltinsAt mg PT :=
  let ⟨bm, o, a, b, c, d, e, r⟩ := x; ⟨bm, o, a, b, c, d, k _ _ e, r⟩
noncomputable def Made (X : Cx) (g : GG) (α : List Addr) (h : Hh) (H1 : Hp) (s1 : Shared) (d : D) (u : Value) (s2 : Shared) : Prop := ∃ p H2, u = .ref p /\ s2.os = s1.os /\ s2.gens = s1.gens /\ HOk X.prog X.w H2 s2.heap /\ Un X.fs [] X.aU H2 X.aM.heap s2.heap /\ Ext X.K α H1 α H2 /\ aW X.K g α H2 h /\ aH X.K g α H2 d (.ref p) ∧
  (∀ b o, H1 b = none -> s1.heap.get? b = some o -> s2.heap.get? b = some o) /\ (∀ b o, s1.heap.get? b = some o -> H1 b = none -> (∀ x c, X.env.cells.lookup x = some c -> c ≠ b) -> H2 b = none)
theorem za {X : Cx} {g : GG} {pins : List (Addr × Obj)} {σ : St} {H1 : Hp} {s1 : Shared} {α : List Addr} {h : Hh} {params : Arguments} {body : Expr} {scope : Scope} {pos : Pos} {clos : List (Str × Addr)} {c PT f : Addr} {lf x ql : Str} {ys : List Str} {vs : List V} {ds : List D} {E : Value -> Shared -> Prop}
    (J : Inv X pins σ H1 s1) (hex : X.ex = []) (hdef : defaultsOf params X.env = ([], [])) (hq : X.env.qual ++ "<lambda>" = ql) (hcode : X.env.code = .ref c) (C : PySem.W.codeHdIn X.K c PT = true) (hB : X.base.BuiltinsAt X.mg PT) (hgP : mainGlobals ≠ PT)
    (hmk : kP X.K f = some (PT, pos, ql)) (uq : ∀ f q, kP X.K f = some q -> q.1 = PT -> q.2 = (pos, ql)) (hcl : closureFor scope X.env = pure clos) (hcs : ∀ y c, clos.lookup y = some c -> X.env.cells.lookup y = some c) (hfn : ∀ y, X.fn y = true)
    (T : sJ lf x ql ys params body scope) (hr : aW X.K g α H1 h) (hvs : Paired (fun y v => (∃ c, clos.lookup y = some c) /\ X.env.kindOf y = some .cell /\ ∃ i : Nat, X.N[i]? = some y /\ σ[i]? = some (some v)) ys vs) (rds : av X.K g α H1 ds vs) :
    wpAny (model X.prog X.w) X.A (eval (.Lambda params body scope pos) X.env) (Made X g α h H1 s1 (.clo lf ds)) E s1 := by
  subst hq
  refine PySem.W.kla_eval hdef ?_
  have Ch : PySem.W.CodeHd s1.heap c PT := PySem.W.codeHd_of_K J.kIn C
  have hg : s1.heap.Ns mainGlobals X.mg := J.mod.glob.keeps J.bk
  have hb := wY J.bk hB
  obtain ⟨m, hns, hloc⟩ := J.loc
  have fin : ∀ (h' : Heap) (tk : Tok) (c' : Addr) (ctv : Value) (oc : Obj) (vc : Array Value) (t : Tok) (ps more : Array Value), H1 PT = some (.tbl ps) -> (∀ b o, b ≠ PT -> s1.heap.get? b = some o -> h'.get? b = some o) -> s1.heap.objs.size <= h'.objs.size -> h'.get? PT = some (PySem.W.tabObj (ps ++ more)) →
      ps ++ more = #[rawInt pos.line, rawInt pos.col, .ref c'] -> h'.get? c' = some oc -> oc.data = .fields vc -> vc[1]? = some (.str (X.env.qual ++ "<lambda>") t) -> c' ≠ PT -> ((H1 c' = none /\ s1.heap.objs.size <= c') \/ H1 c' = some (AtO c' oc)) →
      Made X g α h H1 s1 (.clo lf ds) (.ref h'.objs.size) { s1 with heap := h'.push (PySem.W.kla_obj "<lambda>" (X.env.qual ++ "<lambda>") params body scope clos ((X.mg "__name__").getD .none) c' ctv), toks := tk } := by
    intro h' tk c' ctv oc vc t ps more hPT hk hsz hT hT2 hc hd hv hcP hc1
    have kp : ∀ b o, h'.get? b = some o -> (h'.push (PySem.W.kla_obj "<lambda>" (X.env.qual ++ "<lambda>") params body scope clos ((X.mg "__name__").getD .none) c' ctv)).get? b = some o := fun b o e => Heap.get?_push_of_some _ e
    have pp : (h'.push (PySem.W.kla_obj "<lambda>" (X.env.qual ++ "<lambda>") params body scope clos ((X.mg "__name__").getD .none) c' ctv)).get? h'.objs.size = some (PySem.W.kla_obj "<lambda>" (X.env.qual ++ "<lambda>") params body scope clos ((X.mg "__name__").getD .none) c' ctv) := Heap.get?_push_size _ rfl
    have M : MkS X.prog X.w (fun b => b = h'.objs.size \/ b = c' \/ ∃ y, clos.lookup y = some b) s1.heap (h'.push (PySem.W.kla_obj "<lambda>" (X.env.qual ++ "<lambda>") params body scope clos ((X.mg "__name__").getD .none) c' ctv)) PT ps more H1 := by
      refine ⟨J.hok, hPT, fun b o n e => kp b o (hk b o n e), kp _ _ hT, fun b hb => ?_⟩
      rcases hb with rfl | rfl | ⟨y, hy⟩
      · exact ⟨fun z => absurd (Heap.lt_size hT) (by rw [<- z]; exact Nat.lt_irrefl _), ⟨_, pp⟩, .inl (J.hok.fresh hsz)⟩
      · refine ⟨hcP, ⟨_, kp _ _ hc⟩, ?_⟩
        rcases hc1 with ⟨z, _⟩ | z
        · exact .inl z
        · exact .inr ⟨_, z⟩
      · have z := J.iP y b (hcs y b hy)
        obtain ⟨v, o, e, _⟩ := J.cell y b (hcs y b hy)
        have n := (bw hPT z).symm
        exact ⟨n, ⟨o, kp _ _ (hk b o n e)⟩, .inl z⟩
    have atp := M.at_ (.inl rfl) pp
    have atc := M.at_ (.inr (.inl rfl)) (kp _ _ hc)
    refine ⟨h'.objs.size, _, rfl, rfl, rfl, M.Fx, M.un (hex ▸ J.base) fun b hb => ?_, M.ext, M.FK hr uq (.inr ⟨c', oc, vc, t, ?_, atc, hd, hv⟩), ?_, fun b o n e => kp b o (hk b o (bw hPT n).symm e), fun b o e n hcc => M.non n fun hb => ?_⟩
    · rcases hb with rfl | rfl | ⟨y, hy⟩
      · exact .inl (Nat.le_trans J.sz hsz)
      · rcases hc1 with ⟨_, z⟩ | z
        · exact .inl (Nat.le_trans J.sz z)
        · exact .inr (by rw [z]; exact fun q => nomatch q)
      · exact .inl (J.ok.cab y b (hfn y) (hcs y b hy))
    · rw [M.pt, hT2]
    · refine .clo atp ⟨params, body, scope, _, ctv, x, rfl, T⟩ atc hd hv (L2.Paired.sh hvs fun y v ⟨⟨cc, hcc⟩, kd, i, hN, hσ⟩ => ?_) (rds.ext M.ext)
      obtain ⟨u, ru, lk⟩ := hloc i y v hN hσ (.inr (.inl kd))
      rcases lk with ⟨z, _⟩ | ⟨_, c2, hc2, o, e, hdo⟩
      · rw [kd] at z; cases z
      · rw [hcs y cc hcc] at hc2
        cases hc2
        have z := J.iP y cc (hcs y cc hcc)
        exact ⟨cc, o, u, hcc, M.at_ (.inr (.inr ⟨y, hcc⟩)) (kp _ _ (hk cc o (bw hPT z).symm e)), hdo, ru⟩
    · rcases hb with rfl | rfl | ⟨y, hy⟩
      · exact absurd (Heap.lt_size e) (Nat.not_lt.mpr hsz)
      · rcases hc1 with ⟨_, z⟩ | z
        · exact absurd (Heap.lt_size e) (Nat.not_lt.mpr z)
        · rw [n] at z; cases z
      · exact hcc y b (hcs y b hy) rfl
  rcases hr.tab f _ hmk with hPT | ⟨c', oc, vc, t, hPT, hc, hd, hv⟩
  · have hP : s1.heap.get? PT = some (PySem.W.tabObj #[]) := J.hok PT _ hPT
    refine PySem.W.kla_makeFunction hcl J.ok.glob hg hcode Ch hP trivial rfl hgP hb fun c' ctv h' tk hx hge hlt hrec htb => ?_
    obtain ⟨c2, oc, vc, t, z, hc, hd, hv⟩ := hrec
    cases z
    refine fin h' tk c' ctv oc vc t _ _ hPT (fun b o n e => hx b o n e) (by omega) htb (by simp) hc hd hv (fun z => ?_) (.inl ⟨J.hok.fresh hge, hge⟩)
    exact absurd (Heap.lt_size hP) (by rw [<- z]; exact Nat.not_lt.mpr hge)
  · have hP : s1.heap.get? PT = some (PySem.W.tabObj #[rawInt pos.line, rawInt pos.col, .ref c']) := J.hok PT _ hPT
    refine PySem.W.kla_makeFunctionHit (cv := .ref c') hcl J.ok.glob hg hcode Ch hP trivial (by simp [codeAmong, rawInt]) hb fun ctv h' tk hk hsz => ?_
    refine fin h' tk c' ctv oc vc t _ #[] hPT (fun b o n e => hk b o e) hsz (by rw [Array.append_empty]; exact hk _ _ hP) (by simp) (hk _ _ (ki J.hok hc)) hd hv (fun z => ?_) (.inr hc)
    rw [z, hPT] at hc; cases hc
theorem ua {last : Stmt} {env : Env} : ∀ rows : List Stmt, execs (rows ++ [last]) env = (execs rows env >>= fun f => match f with
    | .next => exec last env
    | f => pure f)
  | [] => by
    show (exec last env >>= fun f => match f with | .next => pure .next | f => pure f) = _
    rw [show (execs [] env : Sem Flow) = pure .next from rfl, pure_bind]
    refine Eq.trans ?_ (bind_pure _)
    congr 1
    funext f
    cases f <;> rfl
  | r :: rows => by
    show (exec r env >>= fun f => match f with | .next => execs (rows ++ [last]) env | f => pure f) = ((exec r env >>= fun f => match f with | .next => execs rows env | f => pure f) >>= _)
    rw [bind_assoc]
    congr 1
    funext f
    cases f with
    | next => exact ua rows
    | ret v => exact (pure_bind _ _).symm
    | brk => exact (pure_bind _ _).symm
    | cont => exact (pure_bind _ _).symm
theorem Bl {CX : CXT} {P : Program} {w : World} {K : PySem.W.Frag} {mg : Str -> Option Value} {base : Heap} {k : Nat} {f : Addr} {name qual : Str} {params : Arguments} {body rows : List Stmt} {last : Stmt} {scope : Scope} {dV kV doc pm cdv ct oc : Value} {an od : Option Addr}
    {osl : Array (Option Value)} {N ps : List Str} {sp : Sp} (lk : K.lookup f = some ⟨oc, od, .func (PySem.W.fnOf name qual params body scope dV kV doc pm an cdv ct), osl⟩) (hcd : PySem.W.codeIn K cdv qual = true) (S : aL N ps scope)
    (len : ∀ vs H Q E, sp vs H Q E -> vs.length = ps.length) (hbd : body = rows ++ [last])
    (hbody : ∀ (A : Around) (outer : List Env) (s : Shared) (H : Hp) (vs : List V) (Q : VK) (E : XK), fR k (A.deeper (envOfC qual scope s.heap.objs.size f cdv)) -> sp vs H Q E →
      ∃ t R, PSs (kj CX P w K mg base N qual scope f cdv A outer s H E) rows t /\ t { nx := R, rt := fun _ _ => False } (start N vs) H /\ ∀ σ H1 s1, Inv (kj CX P w K mg base N qual scope f cdv A outer s H E) [] σ H1 s1 -> R σ H1 →
        wpAny (model P w) (kj CX P w K mg base N qual scope f cdv A outer s H E).A (exec last (envOfC qual scope s.heap.objs.size f cdv)) (fun fl s2 => ∃ u, fl = .ret u /\ CE outer P w H s Q u s2) (kj CX P w K mg base N qual scope f cdv A outer s H E).xe s1) :
    eS P w K mg base CX (k + 1) f (PySem.W.fnOf name qual params body scope dV kV doc pm an cdv ct) ps sp := by
  subst hbd
  refine ⟨len, fun A outer s H args us vs Q E hr e0 hb r hsp => ?_⟩
  have hl := len _ _ _ _ hsp
  have KX : K.In s.heap := e0.mod.kin.keeps fun b o e => (e0.bs b o e).1
  have lim : s.heap.NoLimit := e0.mod.nolimit.keeps fun b o e => (e0.bs b o e).1
  have hkind : ∀ y ∈ ps.zip us, scope.names.lookup y.1 = some .local \/ (scope.names.lookup y.1 = some .cell /\ ((cellsFrom (s.heap.objs.size + 1) scope.names []).lookup y.1).isSome = true) := fun ⟨n, v⟩ hy => by
    rcases S.par n (List.of_mem_zip hy).1 with q | q
    · exact .inl q
    · exact .inr ⟨q, PySem.W.cellsFrom_some _ _ _ (.inl q)⟩
  refine codeAny_call_function hr.depth (KX _ _ lk) rfl S.co S.gen rfl (PySem.W.codeRec_of KX hcd) (hb _ _ _ _ ?_)
  refine wpAny_newFunctionEnv_cells S.kind hkind fun env he s1 x => ?_
  subst he
  refine ⟨lim.keeps x.toInCall.keep, codeAny_func ?_⟩
  obtain ⟨t, R, ht, hq, hlast⟩ := hbody A outer s H vs Q E (hr.deeper _) hsp
  have I : Inv (kj CX P w K mg base N qual scope f cdv A outer s H E) [] (start N vs) H s1 := qh S hr.hd e0 hl r x
  rw [ua]
  refine wpAny_mono (wpAny_bind (thn (ht [] s1 (start N vs) H _ I hq) fun fl s' hs => ?_)) (Q := fun fl s2 => ∃ u, fl = Flow.ret u /\ CE outer P w H s Q u s2) (fun fl s' hs => ?_) fun e s' hs => hs
  · cases fl with
    | next =>
      obtain ⟨σ', H', J, q⟩ := hs
      exact hlast σ' H' s' J q
    | ret u => obtain ⟨_, _, _, _, _, q⟩ := hs; exact False.elim q
    | brk => obtain ⟨_, _, _, q⟩ := hs; exact False.elim q
    | cont => obtain ⟨_, _, _, q⟩ := hs; exact False.elim q
  · obtain ⟨u, rfl, q⟩ := hs
    exact q
noncomputable def uX : List Nat -> En -> Option (List D)
  | [], _ => some []
  | i :: r, e => match (e[i]? : Option (Option D)), uX r e with
    | some (some d), some ds => some (d :: ds)
    | _, _ => none
noncomputable def AV (n : Nat) (m : MS) (lf : Str) (ix : List Nat) : MF := fun ds h => (m (ds.map some ++ List.replicate (n - ds.length) none) h).bind fun fl h1 => match fl with
  | .nx e => (match uX ix e with
    | some cs => .ok (.clo lf cs) h1
    | none => .bad)
  | _ => .bad
theorem sG {K : PySem.W.Frag} {g : GG} {α : List Addr} {H : Hp} {N : List Str} {σ : St} {e : En} (v : jz K g α H e σ) : ∀ {ix : List Nat} {ys : List Str} {cs : List D}, ix.map (fun i => N[i]?) = ys.map some -> uX ix e = some cs →
    ∃ vs, Paired (fun y v => ∃ i : Nat, N[i]? = some y /\ σ[i]? = some (some v)) ys vs /\ av K g α H cs vs
  | [], [], _, _, h => by cases h; exact ⟨[], .nil, .nil⟩
  | [], _ :: _, _, e, _ => by cases e
  | _ :: _, [], _, e, _ => by cases e
  | i :: ix, y :: ys, cs, hi, h => by
    simp only [List.map_cons, List.cons.injEq] at hi
    unfold uX at h
    split at h
    · rename_i d ds e1 e2
      cases h
      obtain ⟨u, hu, ru⟩ := v.vars i d e1
      obtain ⟨vs, p, r⟩ := sG v hi.2 e2
      exact ⟨u :: vs, .cons ⟨i, hi.1, hu⟩ p, .cons ru r⟩
    · cases h
noncomputable def mkU (K : PySem.W.Frag) : Bool := (K.filterMap fun p => kP K p.1).all fun a => (K.filterMap fun p => kP K p.1).all fun b => !(Nat.beq a.1 b.1) || decide (a.2 = b.2)
theorem zu {K : PySem.W.Frag} {f : Addr} {o : Obj} (h : K.lookup f = some o) : ∃ p ∈ K, p.1 = f := by
  induction K with
  | nil => cases h
  | cons q r ih =>
    rw [List.lookup_cons] at h
    split at h
    · rename_i e; exact ⟨q, List.mem_cons_self .., (beq_iff_eq.mp e).symm⟩
    · obtain ⟨p, a, b⟩ := ih h; exact ⟨p, List.mem_cons_of_mem _ a, b⟩
theorem rZ {K : PySem.W.Frag} {f : Addr} {q : Addr × Pos × Str} (h : kP K f = some q) : q ∈ K.filterMap fun p => kP K p.1 := by
  cases e : K.lookup f with
  | none => unfold kP at h; rw [e] at h; cases h
  | some o =>
    obtain ⟨p, hp, e1⟩ := zu e
    exact List.mem_filterMap.mpr ⟨p, hp, by rw [e1]; exact h⟩
theorem CQ {K : PySem.W.Frag} (u : mkU K = true) {f f' : Addr} {q q' : Addr × Pos × Str} (h : kP K f = some q) (h' : kP K f' = some q') (e : q'.1 = q.1) : q'.2 = q.2 := by
  have := List.all_eq_true.mp (List.all_eq_true.mp u q' (rZ h')) q (rZ h)
  rw [e, show Nat.beq q.1 q.1 = true from Nat.beq_refl _] at this
  simpa using this
structure Mkr (K : PySem.W.Frag) (mg : Str -> Option Value) (base : Heap) (fd : FuncData) (c PT : Addr) : Prop where
  code : fd.code = .ref c
  hd : PySem.W.codeHdIn K c PT = true
  bat : base.BuiltinsAt mg PT
  ne : mainGlobals ≠ PT
  uq : mkU K = true
theorem AW {K : PySem.W.Frag} {c PT : Addr} (e : PySem.W.codeHdIn K c PT = true) : ∃ k d vs s, K.lookup c = some ⟨k, d, .fields vs, s⟩ /\ vs[11]? = some (.ref PT) := by
  unfold PySem.W.codeHdIn at e
  split at e
  · rename_i vs _ hk
    simp only [Bool.and_eq_true] at e
    obtain ⟨⟨⟨⟨⟨e1, _⟩, _⟩, _⟩, _⟩, _⟩ := e
    split at e1
    · rename_i P' h11
      have hP : P' = PT := beq_iff_eq.mp e1
      subst hP
      exact ⟨_, _, vs, _, hk, h11⟩
    · cases e1
  · cases e
theorem AH {K : PySem.W.Frag} {f c PT : Addr} {fd : FuncData} {pos : Pos} {oc : Value} {od : Option Addr} {osl : Array (Option Value)} (lk : K.lookup f = some ⟨oc, od, .func fd, osl⟩) (hc : fd.code = .ref c) (C : PySem.W.codeHdIn K c PT = true) (hm : Be fd = some pos) :
    kP K f = some (PT, pos, fd.qualname ++ ".<locals>." ++ "<lambda>") := by
  obtain ⟨k, d, vs, s, e, e11⟩ := AW C
  unfold kP
  rw [lk]
  simp only [hm, hc, e, e11]
section
variable {P : Program} {w : World} {K : PySem.W.Frag} {mg : Str -> Option Value} {base : Heap} {g : GG}
theorem Ej {x : Str} {st : Stmt} {f : Addr} {fd : FuncData} {N ps : List Str} {k : Nat} {mb : MS} {rows : List Stmt} {params : Arguments} {body : Expr} {scope : Scope} {pos rpos : Pos} {lf y : Str} {ys : List Str} {ix : List Nat} {c PT : Addr} (F : Fun K x x st f fd) (S : aL N ps (ao st)) (M : Mkr K mg base fd c PT)
    (hbd : eB st = rows ++ [.Return (some (.Lambda params body scope pos)) rpos]) (hdef : ∀ env, defaultsOf params env = ([], []))
    (hcl : ∀ (L : Addr) (cdv : Value), ∃ clos, closureFor scope (envOfC x (ao st) L f cdv) = pure clos /\ (∀ z c, clos.lookup z = some c -> (envOfC x (ao st) L f cdv).cells.lookup z = some c) /\ ∀ z ∈ ys, ∃ c, clos.lookup z = some c)
    (hys : ∀ z ∈ ys, (ao st).names.lookup z = some .cell) (hix : ix.map (fun i => N[i]?) = ys.map some) (T : sJ lf y (x ++ ".<locals>." ++ "<lambda>") ys params body scope)
    (hb : ∀ (cdv : Value) (A : Around) (outer : List Env) (s : Shared) (H : Hp) (E : XK), fR k (A.deeper (envOfC x (ao st) s.heap.objs.size f cdv)) →
      PSs (kj CX0 P w K mg base N x (ao st) f cdv A outer s H E).nox rows (tMS K g E00 mb)) : eS P w K mg base CX0 (k + 1) f fd ps (spM K g ps.length (AV N.length mb lf ix)) := by
  obtain ⟨oc, od, kV, doc, pm, an, cdv, ct, osl, rfl, lk, hcd⟩ := F.ex
  have hmk : Be (PySem.W.fnOf x x (iw st) (eB st) (ao st) .none kV doc pm an cdv ct) = some pos := by
    unfold Be PySem.W.fnOf
    dsimp only
    rw [hbd, List.getLast?_concat]
  have hT := AH lk M.code M.hd hmk
  obtain rfl : cdv = .ref c := M.code
  refine Bl lk hcd S (fun vs H Q E h => h.1) hbd fun A outer s H vs Q E hr hsp => ?_
  obtain ⟨hl, α, ds, h, rs, hh, w1⟩ := hsp
  refine ⟨_, fun σ H1 => ∃ α1 e h1 cs, Ext K α H α1 H1 /\ dX K g α1 H1 e σ h1 /\ uX ix e = some cs /\ aR K g α H Q (.clo lf cs) h1, (hb (.ref c) A outer s H E hr).nox, ?_, fun σ H1 s1 J hR => ?_⟩
  · refine tMS.use ⟨hh, qt rs⟩ w1.bind fun fl h' H' α' e r kk => ?_
    cases fl with
    | nx e' =>
      intro σ' s'
      dsimp only at kk
      cases ec : uX ix e' with
      | none => rw [ec] at kk; exact kk.elim
      | some cs => rw [ec] at kk; exact ⟨α', e', h', cs, e, s', ec, kk⟩
    | bk e' => exact kk.elim
    | ct e' => exact kk.elim
    | rt d => exact kk.elim
  · obtain ⟨α1, e, h1, cs, ex, sr, ec, po⟩ := hR
    obtain ⟨clos, hc1, hc2, hc3⟩ := hcl s.heap.objs.size (.ref c)
    obtain ⟨vs', pv, rds⟩ := sG sr.vs hix ec
    have pv2 : Paired (fun z v => (∃ c, clos.lookup z = some c) /\ (ao st).names.lookup z = some .cell /\ ∃ i : Nat, N[i]? = some z /\ σ[i]? = some (some v)) ys vs' := by
      clear ec rds hix T hcl
      induction pv with
      | nil => exact .nil
      | cons q t ih => exact .cons ⟨hc3 _ (List.mem_cons_self ..), hys _ (List.mem_cons_self ..), q⟩ (ih (fun z hz => hys z (List.mem_cons_of_mem _ hz)) (fun z hz => hc3 z (List.mem_cons_of_mem _ hz)))
    refine wpAny_Return_some (thn (za (X := kj CX0 P w K mg base N x (ao st) f (.ref c) A outer s H E) (g := g) (α := α1) (h := h1) J rfl (hdef _) rfl rfl M.hd M.bat M.ne hT (fun f' q e1 e2 => CQ M.uq hT e1 e2) hc1 hc2 (fun _ => rfl) T sr.heap pv2 rds) fun u s2 md => ?_)
    obtain ⟨p, H2, rfl, os, gn, hok, un, ex2, hr2, rd, _, _⟩ := md
    exact ⟨_, rfl, .ref p, H2, os.trans J.os, by rw [gn]; exact J.bare, un, hok, rfl, po _ H2 α1 (ex.trans ex2) hr2 rd⟩
end
noncomputable def iT (ts : List Addr) (Hs : Hp) : Hp := fun b => if b ∈ ts then some (.tbl #[]) else Hs b
theorem wm {P : Program} {w : World} {K : PySem.W.Frag} {mg mb : Str -> Option Value} {k : Nat} {fa a : Addr} {fd : FuncData} {x : Str} {sp : Sp} {s₁ : Shared} {vs : List Value} {ns : List Int} {ts : List Addr}
    (KX : K.In s₁.heap) (hns : s₁.heap.Ns mainGlobals mg) (hb : s₁.heap.Ns builtinsNs mb) (hbb : ∀ x : Str, x ≠ "__name__" -> mb x = bootBuiltins x) (hlim : s₁.heap.NoLimit) (hg : s₁.gens = #[])
    (hbm : ∃ bm ob, mg "__builtins__" = some (.ref bm) /\ bm ≠ builtinsNs /\ s₁.heap.get? bm = some ob /\ ob.cls = .type "module" /\ ob.dict = some builtinsNs /\ ob.data = .plain)
    (hts : ∀ P ∈ ts, s₁.heap.get? P = some (PySem.W.tabObj #[])) (hct : ∀ P ∈ ts, ∃ c, PySem.W.CodeHd s₁.heap c P) (hKt : ∀ P ∈ ts, K.lookup P = none)
    (ha : s₁.heap.get? a = some { cls := .type "list", data := .seq vs.toArray }) (hi : IntsAre vs ns) (hl : ns.length <= sizeLine) (hr : fR k callerA)
    (F : ∀ base : Heap, K.In base -> base.Ns mainGlobals mg -> (∀ P ∈ ts, base.BuiltinsAt mg P) -> eS P w K mg base CX0 k fa fd [x] sp) (hbind : ∀ (s : Shared) (u : Value), BindsTo s fd ⟨[u], []⟩ [(x, u)])
    (hsp : ∀ H : Hp, (∀ P ∈ ts, H P = some (.tbl #[])) -> Fro K H a (ns.map V.int) -> sp [.ref a] H (fun v _ => v = .bl true) fun _ _ _ => False) :
    codeAny (model P w) callerA (.call (.ref fa) ⟨[.ref a], []⟩) (fun r s' => r = .ok (.ret (.bool true)) /\ OldK s₁.heap s'.heap /\ s'.os = s₁.os /\ AllBare s'.gens) s₁ := by
  have rv := qg hi
  have lenV := hi.length
  have aT : a ∉ ts := fun z => by rw [hts a z] at ha; cases ha
  have core : ∀ Hs : Hp, E_ Hs -> Fro K (iT ts Hs) a (ns.map V.int) -> HOk P w Hs s₁.heap -> (∀ b, Hs b ≠ none -> b = a) -> (Hs a ≠ none -> K.lookup a = none) →
      codeAny (model P w) callerA (.call (.ref fa) ⟨[.ref a], []⟩) (fun r s' => r = .ok (.ret (.bool true)) /\ OldK s₁.heap s'.heap /\ s'.os = s₁.os /\ AllBare s'.gens) s₁ := by
    intro Hs hO hS hok0 hA hK
    have inT : ∀ {b : Addr}, b ∈ ts -> iT ts Hs b = some (.tbl #[]) := fun h => by unfold iT; rw [if_pos h]
    have offT : ∀ {b : Addr}, b ∉ ts -> iT ts Hs b = Hs b := fun h => by unfold iT; rw [if_neg h]
    have hok : HOk P w (iT ts Hs) s₁.heap := fun b u e => by
      by_cases hb : b ∈ ts
      · rw [inT hb] at e; cases e; exact hts b hb
      · rw [offT hb] at e
        refine (hok0 b u e).lC (fun _ _ _ z => z) (fun c z => ?_) fun c xs z => ?_
        · rcases hO c with q | ⟨_, _, q⟩
          · rw [z] at q; cases q
          · rw [z] at q; cases q
        · rcases hO c with q | ⟨_, _, q⟩
          · rw [z] at q; cases q
          · rw [z] at q; cases q
    have non : ∀ {b : Addr} {o : Obj}, s₁.heap.get? b = some o -> (∀ a n, o.data ≠ .seq a n) -> (∀ a, o.data ≠ .fields a) -> iT ts Hs b = none := fun {b o} e d1 d2 => by
      by_cases hb : b ∈ ts
      · rw [hts b hb] at e; cases e; exact absurd rfl (d2 _)
      · rw [offT hb]
        cases q : Hs b with
        | none => rfl
        | some u =>
          have e' : b = a := hA b (by rw [q]; simp)
          subst e'
          rw [ha] at e; cases e; exact absurd rfl (d1 _ _)
    have base_of : ∀ {b : Addr} {o : Obj}, s₁.heap.get? b = some o -> iT ts Hs b = none -> (pe s₁.heap (iT ts Hs)).get? b = some o := fun e n => yI e n
    have nsK : ∀ {b : Addr} {m : Str -> Option Value}, s₁.heap.Ns b m -> (pe s₁.heap (iT ts Hs)).Ns b m := fun {b m} ⟨o, es, ep, e, d, r⟩ => ⟨o, es, ep, base_of e (non e (fun _ _ z => by rw [d] at z; cases z) fun _ z => by rw [d] at z; cases z), d, r⟩
    have hKb : K.In (pe s₁.heap (iT ts Hs)) := fun b o e => base_of (KX b o e) (by
      have hb : b ∉ ts := fun z => by rw [hKt b z] at e; cases e
      rw [offT hb]
      cases q : Hs b with
      | none => rfl
      | some u =>
        have e' : b = a := hA b (by rw [q]; simp)
        subst e'
        rw [hK (by rw [q]; simp)] at e; cases e)
    have hM : Mod K mg (pe s₁.heap (iT ts Hs)) := ⟨hKb, nsK hns, ⟨mb, nsK hb, hbb⟩, let ⟨mc, h1, h2⟩ := hlim; ⟨mc, nsK h1, h2⟩⟩
    have hBA : ∀ P ∈ ts, (pe s₁.heap (iT ts Hs)).BuiltinsAt mg P := fun PT hP => by
      obtain ⟨bm, ob, b1, b2, b3, b4, b5, b6⟩ := hbm
      refine ⟨bm, ob, b1, b2, fun z => ?_, fun z => ?_, base_of b3 (non b3 (fun _ _ z => by rw [b6] at z; cases z) fun _ z => by rw [b6] at z; cases z), b4, b5, b6⟩
      · obtain ⟨o, es, ep, e, d, _⟩ := hns
        rw [<- z, b3] at e; cases e; rw [b6] at d; cases d
      · rw [z, hts PT hP] at b3; cases b3; cases b6
    have e0 : w_ P w K mg (pe s₁.heap (iT ts Hs)) callerA [] s₁ (iT ts Hs) := ⟨rfl, hM, fun b o e => Ai e, Nat.le_of_eq (w8 _ _), trivial, fun b hb => absurd (show b ∈ ([] : List Addr) from hb) (by simp), hok, .of_eq hg⟩
    refine codeAny_mono ((F _ hKb (nsK hns) hBA).run callerA [] s₁ (iT ts Hs) ⟨[.ref a], []⟩ [.ref a] [.ref a] _ _ hr e0 (hbind s₁ (.ref a)) (.cons rfl .nil) (hsp _ (fun P hP => inT hP) hS)) fun r s' h => ?_
    cases r with
    | error e => exact h.elim
    | ok fl =>
      cases fl with
      | next => exact False.elim h
      | brk => exact False.elim h
      | cont => exact False.elim h
      | ret u =>
        obtain ⟨v, H', os, bare, un, hok', r', q⟩ := h
        have q' : v = .bl true := q
        subst q'
        obtain rfl : u = Value.bool true := r'
        have old : ∀ b o, s₁.heap.get? b = some o -> b ∉ ts -> s'.heap.get? b = some o := fun b o e hb => by
          cases q : iT ts Hs b with
          | none => exact un.keep b o e q (by intro z; exact absurd (show b ∈ ([] : List Addr) from z) (by simp)) (by simp)
          | some u =>
            rw [offT hb] at q
            rcases hO b with z | ⟨ob, xs, z⟩
            · rw [q] at z; cases z
            · have z2 := un.lO b ob _ ((offT hb).trans z)
              obtain ⟨e1, _⟩ := hok0 b _ z
              obtain ⟨e2, _⟩ := hok' b _ z2
              rw [e] at e1; cases e1
              exact e2
        have grown : ∀ b ∈ ts, ∃ ps, s'.heap.get? b = some (PySem.W.tabObj ps) := fun b hb => by
          obtain ⟨more, e1⟩ := un.mM b _ (inT hb)
          exact ⟨_, hok' b _ e1⟩
        refine ⟨rfl, ⟨fun b o e => ?_, fun b o e => ?_⟩, os, bare⟩
        · by_cases hb : b ∈ ts
          · obtain ⟨ps, e1⟩ := grown b hb
            obtain ⟨c, C⟩ := hct b hb
            have e2 := hts b hb
            rw [e] at e2; cases e2
            exact .inr (.inl ⟨(C.tab (hts b hb)).isCodeTable, rfl, #[], ps, rfl, by rw [e1]; simp⟩)
          · exact .inl (old b o e hb)
        · by_cases hb : b ∈ ts
          · obtain ⟨ps, e1⟩ := grown b hb; exact ⟨_, e1⟩
          · exact ⟨o, old b o e hb⟩
  cases hk : K.lookup a with
  | some o =>
    have e := KX a o hk
    rw [ha] at e
    cases e
    refine core (fun _ => none) (fun _ => .inl rfl) (.inr ⟨_, vs.toArray, _, hk, rfl, rfl, rfl, by rw [List.size_toArray, lenV]; exact hl, by simpa using rv⟩) (fun b u z => by have z' : (none : Option HO) = some u := z; cases z') (fun b z => absurd rfl z) fun z => absurd rfl z
  | none =>
    refine core (fun b => if b = a then some (.frz { cls := .type "list", data := .seq vs.toArray } (.lst (ns.map V.int))) else none) (fun b => ?_) (.inl ⟨{ cls := .type "list", data := .seq vs.toArray }, ?_⟩) (fun b u z => ?_) (fun b z => ?_) fun _ => hk
    · by_cases hb : b = a
      · exact .inr ⟨_, _, if_pos hb⟩
      · exact .inl (if_neg hb)
    · unfold iT; rw [if_neg aT]; exact if_pos rfl
    · by_cases hb : b = a
      · have z' := (if_pos hb).symm.trans z
        cases z'
        subst hb
        exact ⟨ha, by rw [List.length_map]; exact hl, vs, _, rv, ha⟩
      · have z' := (if_neg hb).symm.trans z
        cases z'
    · by_cases hb : b = a
      · exact hb
      · exact absurd (if_neg hb) z
noncomputable def tabOf (K : PySem.W.Frag) (c : Addr) : Addr := match K.lookup c with
  | some ⟨_, _, .fields vs, _⟩ => (match (vs[11]? : Option Value) with | some (.ref P) => P | _ => 0)
  | _ => 0
noncomputable def B8 (K : PySem.W.Frag) (ts : List Addr) : Bool := (K.filterMap fun p => kP K p.1).all (fun q => ts.any (Nat.beq q.1)) && ts.all fun P => (K.lookup P).isNone && K.any fun p => match p.2.data with
  | .func fd => (match fd.code with
    | .ref c => PySem.W.codeHdIn K c P
    | _ => false)
  | _ => false
noncomputable def B4 (K : PySem.W.Frag) (ts : List Addr) (x : Str) (st : Stmt) : Prop := ∃ f fd c, PySem.W.nsIn K mainGlobals x = some (some (.ref f)) /\ Fun K x x st f fd /\ fd.code = .ref c /\ PySem.W.codeHdIn K c (tabOf K c) = true /\ ts.any (Nat.beq (tabOf K c)) = true /\ Nat.beq mainGlobals (tabOf K c) = false
noncomputable def Bo (K : PySem.W.Frag) (mg : Str -> Option Value) (base : Heap) (x : Str) (st : Stmt) : Prop := ∀ f fd, mg x = some (.ref f) -> Fun K x x st f fd -> ∃ c PT, Mkr K mg base fd c PT
theorem DY {K : PySem.W.Frag} {ts : List Addr} {x : Str} {st : Stmt} {f c : Addr} {oc : Value} {od an : Option Addr} {osl : Array (Option Value)} {kV doc pm ct : Value} (a : PySem.W.nsIn K mainGlobals x = some (some (.ref f)))
    (l : K.lookup f = some ⟨oc, od, .func (PySem.W.fnOf x x (iw st) (eB st) (ao st) .none kV doc pm an (.ref c) ct), osl⟩) (cc : PySem.W.codeIn K (.ref c) x = true) (k : PySem.W.keepIn K (.ref f) = true)
    (h1 : PySem.W.codeHdIn K c (tabOf K c) = true) (h2 : ts.any (Nat.beq (tabOf K c)) = true) (h3 : Nat.beq mainGlobals (tabOf K c) = false) : B4 K ts x st := ⟨f, _, c, a, y0 l cc k, rfl, h1, h2, h3⟩
theorem Bo.of {K : PySem.W.Frag} {mg : Str -> Option Value} {base h : Heap} {ts : List Addr} {x : Str} {st : Stmt} (X : K.In h) (G : h.Ns mainGlobals mg) (hB : ∀ P ∈ ts, base.BuiltinsAt mg P) (hU : mkU K = true) (m : B4 K ts x st) : Bo K mg base x st := by
  intro f fd hm F
  obtain ⟨f2, fd2, c, a, F2, hc, h1, h2, h3⟩ := m
  have hm2 := PySem.W.mg_of X G a
  rw [hm] at hm2
  cases hm2
  obtain ⟨oc, od, osl, l1⟩ := aN F
  obtain ⟨oc', od', osl', l2⟩ := aN F2
  rw [l1] at l2
  cases l2
  obtain ⟨P, hP, e⟩ := List.any_eq_true.mp h2
  have e := Nat.eq_of_beq_eq_true e
  refine ⟨c, tabOf K c, hc, h1, hB _ (by rw [e]; exact hP), fun z => ?_, hU⟩
  rw [<- z, Nat.beq_refl] at h3; cases h3
theorem A3 {k : Nat} {m : MF} {l : PySem.W.OpenLaw} {q : Program} {loose : List Str} {XP : (Str -> Option Value) -> Heap -> Prop} {YP : World -> Heap -> Prop} {d : DefRec} {K : Params -> PySem.W.Frag} {ts : List Addr} (hn : l.most = some 63) (hdf : d.params.defaults = []) (hr : fR k callerA)
    (hY : ∀ (w : World) (h : Heap), YP w h -> (K w.params).In h) (hT : ∀ (w : World) (h : Heap), YP w h -> ∀ P ∈ ts, h.get? P = some (PySem.W.tabObj #[])) (hI : ∀ P, B8 (K P) ts = true)
    (ok : ∀ ns : List Int, ns.length <= 63 -> ∃ h, m [.scr (ns.map D.int)] [] = .ok (.bl true) h)
    (F : ∀ (w : World) (mg : Str -> Option Value) (fa : Addr) (h : Heap), (K w.params).In h -> h.Ns mainGlobals mg -> mg d.name = some (.ref fa) →
      ∃ fd : FuncData, (∀ (s : Shared) (u : Value), BindsTo s fd ⟨[u], []⟩ [("_law_script", u)]) /\ ∀ base : Heap, (K w.params).In base -> base.Ns mainGlobals mg -> (∀ P ∈ ts, base.BuiltinsAt mg P) -> eS l.prog w (K w.params) mg base CX0 k fa fd ["_law_script"] (spM (K w.params) (gOf mg) 1 m)) :
    PySem.W.WalkO q loose XP YP l.row.toRowW d [] (fun f vs => PySem.call f vs) := by
  refine Att.tU hn hdf fun w aM s₁ mg mb fa o pm cd doc a vs ns G Y ho hd hcd hmg hobj hints hlen hg => ?_
  have KX := hY w _ Y
  obtain ⟨fd, hb, hF⟩ := F w mg fa _ KX G.T.g hmg
  have i := hI w.params
  unfold B8 at i
  obtain ⟨i1, i2⟩ := Bool.and_eq_true_iff.mp i
  have tq : ∀ P ∈ ts, ∃ c, (K w.params).lookup P = none /\ PySem.W.codeHdIn (K w.params) c P = true := fun P hP => by
    have z := Bool.and_eq_true_iff.mp (List.all_eq_true.mp i2 P hP)
    obtain ⟨p, _, y⟩ := List.any_eq_true.mp z.2
    split at y
    · split at y
      · rename_i c _; exact ⟨c, by simpa using z.1, y⟩
      · cases y
    · cases y
  refine wm (sp := fun vs H Q _ => ∃ a ns, vs = [V.ref a] /\ ns.length <= 63 /\ (∀ P ∈ ts, H P = some (.tbl #[])) /\ Fro (K w.params) H a (ns.map V.int) /\ ∀ v H', v = V.bl true -> Q v H') KX G.T.g G.T.b G.T.builtins G.T.nolimit hg G.T.bmain (hT w _ Y) (fun P hP => let ⟨c, _, e⟩ := tq P hP; ⟨c, PySem.W.codeHd_of_K KX e⟩) (fun P hP => let ⟨_, e, _⟩ := tq P hP; e) hobj hints (Nat.le_trans hlen (by decide)) hr
    (fun base kb nb bb => (hF base kb nb bb).imp fun vs H Q E z => ?_) hb (fun H h1 h2 => ⟨a, ns, rfl, hlen, h1, h2, fun _ _ z => z⟩)
  obtain ⟨a, ns, rfl, hl, hO, hS, hQ⟩ := z
  obtain ⟨hh, e⟩ := ok ns hl
  refine ⟨rfl, [], [.scr (ns.map D.int)], [], .cons (.scr hS (av.ints ns)) .nil, ⟨rfl, fun n m p z => by simp at z, fun n p o z => by simp at z, fun f q e => .inl (hO _ ?_)⟩, ?_⟩
  · obtain ⟨p, hp, z⟩ := List.any_eq_true.mp (List.all_eq_true.mp i1 q (rZ e))
    rw [Nat.eq_of_beq_eq_true z]
    exact hp
  · rw [e]
    intro v H' α' _ _ rd
    cases rd
    exact hQ _ _ rfl
noncomputable def iV (cells : List (Str × Addr)) : List (Str × NameKind) -> List (Str × Addr) -> List (Str × Addr)
  | [], cs => cs
  | (n, k) :: r, cs => iV cells r (if k == .free then (n, (cells.lookup n).getD 0) :: cs else cs)
theorem vv {env : Env} : ∀ (ns : List (Str × NameKind)) (cs : List (Str × Addr)), (∀ q ∈ ns, q.2 = .free -> (env.cells.lookup q.1).isSome = true) →
    (forIn ns cs fun (x : Str × NameKind) (r : List (Str × Addr)) => match x with
      | (name, kind) => if (kind == .free) = true then do let c ← cellOf env name; pure (ForInStep.yield ((name, c) :: r)) else pure (ForInStep.yield r) : Sem (List (Str × Addr))) = pure (iV env.cells ns cs)
  | [], cs, _ => by rfl
  | (n, k) :: r, cs, h => by
    rw [List.forIn_cons]
    have ih := fun cs => vv (env := env) r cs fun q hq => h q (List.mem_cons_of_mem _ hq)
    by_cases hk : (k == .free) = true
    · obtain ⟨c, hc⟩ := Option.isSome_iff_exists.mp (h (n, k) (List.mem_cons_self ..) (beq_iff_eq.mp hk))
      have hc : env.cells.lookup n = some c := hc
      simp only [hk, if_true, iV, hc, Option.getD_some, cellOf, pure_bind]
      exact ih _
    · simp only [Bool.not_eq_true] at hk
      simp only [hk, Bool.false_eq_true, if_false, iV, pure_bind]
      exact ih _
theorem AO {scope : Scope} {env : Env} (h : ∀ q ∈ scope.names, q.2 = .free -> (env.cells.lookup q.1).isSome = true) : closureFor scope env = pure (iV env.cells scope.names []) := by
  exact (congrArg (fun m : Sem (List (Str × Addr)) => m >>= fun s => pure s) (vv scope.names [] h)).trans (pure_bind _ _)
theorem tf {cells : List (Str × Addr)} {z : Str} {c : Addr} : ∀ (ns : List (Str × NameKind)) (cs : List (Str × Addr)), (∀ q ∈ ns, q.2 = .free -> (cells.lookup q.1).isSome = true) -> (∀ z c, cs.lookup z = some c -> cells.lookup z = some c) -> (iV cells ns cs).lookup z = some c -> cells.lookup z = some c
  | [], cs, _, h, e => h z c e
  | (n, k) :: r, cs, hf, h, e => by
    refine tf r _ (fun q hq => hf q (List.mem_cons_of_mem _ hq)) (fun z c => ?_) e
    split
    · rename_i hk
      rw [List.lookup_cons]
      split
      · rename_i hz
        intro q
        cases q
        obtain ⟨c, hc⟩ := Option.isSome_iff_exists.mp (hf (n, k) (List.mem_cons_self ..) (beq_iff_eq.mp hk))
        rw [beq_iff_eq.mp hz, hc]; rfl
      · exact h z c
    · exact h z c
theorem pY {cells : List (Str × Addr)} {z : Str} : ∀ (ns : List (Str × NameKind)) (cs : List (Str × Addr)), (∃ c, cs.lookup z = some c) -> ∃ c, (iV cells ns cs).lookup z = some c
  | [], cs, h => h
  | (n, k) :: r, cs, h => by
    refine pY r _ ?_
    split
    · rw [List.lookup_cons]
      split
      · exact ⟨_, rfl⟩
      · exact h
    · exact h
theorem tX {cells : List (Str × Addr)} {z : Str} : ∀ (ns : List (Str × NameKind)) (cs : List (Str × Addr)), (z, NameKind.free) ∈ ns -> ∃ c, (iV cells ns cs).lookup z = some c
  | (n, k) :: r, cs, h => by
    rcases List.mem_cons.mp h with e | e
    · cases e
      refine pY r _ ?_
      rw [if_pos (by rfl), List.lookup_cons]
      simp
    · exact tX r _ e
section
variable {P : Program} {w : World} {K : PySem.W.Frag} {mg : Str -> Option Value} {base : Heap} {g : GG}
theorem Cg {x : Str} {st : Stmt} {f : Addr} {fd : FuncData} {N ps : List Str} {k : Nat} {mb : MS} (rows : List Stmt) {params : Arguments} {body : Expr} {scope : Scope} {pos rpos : Pos} (lf y : Str) (ys : List Str) (ix : List Nat) {c PT : Addr} (F : Fun K x x st f fd) (S : aL N ps (ao st)) (M : Mkr K mg base fd c PT)
    (hbd : eB st = rows ++ [.Return (some (.Lambda params body scope pos)) rpos]) (hdef : ∀ env, defaultsOf params env = ([], []))
    (hfr : ∀ q ∈ scope.names, q.2 = .free -> (ao st).names.lookup q.1 = some .cell) (hyf : ∀ z ∈ ys, (z, NameKind.free) ∈ scope.names)
    (hix : ix.map (fun i => N[i]?) = ys.map some) (T : sJ lf y (x ++ ".<locals>." ++ "<lambda>") ys params body scope)
    (hb : ∀ (cdv : Value) (A : Around) (outer : List Env) (s : Shared) (H : Hp) (E : XK), fR k (A.deeper (envOfC x (ao st) s.heap.objs.size f cdv)) →
      PSs (kj CX0 P w K mg base N x (ao st) f cdv A outer s H E).nox rows (tMS K g E00 mb)) : eS P w K mg base CX0 (k + 1) f fd ps (spM K g ps.length (AV N.length mb lf ix)) := by
  refine Ej (rows := rows) (lf := lf) (y := y) (ys := ys) (ix := ix) F S M hbd hdef (fun L cdv => ?_) (fun z hz => hfr (z, .free) (hyf z hz) rfl) hix T hb
  have hs : ∀ q ∈ scope.names, q.2 = .free -> ((envOfC x (ao st) L f cdv).cells.lookup q.1).isSome = true := fun q hq e => PySem.W.cellsFrom_some _ _ _ (.inl (hfr q hq e))
  exact ⟨_, AO hs, fun z c e => tf scope.names [] hs (fun _ _ z => nomatch z) e, fun z hz => tX scope.names [] (hyf z hz)⟩
end
end L2.FE
namespace L2.FE
open PySem
section
variable {β γ : Type} {h h1 : Hh} {env : En}
@[simp] theorem fF {b : β} {f : β -> Hh -> R γ} : (R.ok b h).bind f = f b h := Eq.trans rfl rfl
@[simp] theorem ED {c : Prop} [Decidable c] {a b : R β} {f : β -> Hh -> R γ} : (if c then a else b).bind f = if c then a.bind f else b.bind f := by split <;> rfl
@[simp] theorem e_C {d : D} : cC d env h = .ok d h := Eq.trans rfl rfl
@[simp] theorem BN {d : D} {r : En} : ag 0 (some d :: r) h = .ok d h := Eq.trans rfl rfl
@[simp] theorem Cv {i : Nat} {x : Option D} {r : En} : ag (i + 1) (x :: r) h = ag i r h := Eq.trans rfl rfl
@[simp] theorem DQ {f : D -> D -> Hh -> R D} {a b : ME} : ar f a b env h = (a env h).bind fun x h1 => (b env h1).bind fun y h2 => f x y h2 := Eq.trans rfl rfl
@[simp] theorem GU {f : D -> Hh -> R D} {a : ME} : cUn f a env h = (a env h).bind fun x h1 => f x h1 := Eq.trans rfl rfl
@[simp] theorem Ds : ak env h = .ok [] h := Eq.trans rfl rfl
@[simp] theorem B9 {a : ME} {r : MA} : aa a r env h = (a env h).bind fun x h1 => (r env h1).bind fun xs h2 => .ok (x :: xs) h2 := Eq.trans rfl rfl
@[simp] theorem CT {f : List D -> Hh -> R D} {a : MA} : ai f a env h = (a env h).bind f := Eq.trans rfl rfl
@[simp] theorem As {f : D -> List D -> Hh -> R D} {o : ME} {a : MA} : jk f o a env h = (o env h).bind fun x h1 => if isL x h1 = true then (a env h1).bind fun xs h2 => f x xs h2 else .bad := Eq.trans rfl rfl
@[simp] theorem CM {f : D -> Hh -> R Bool} {a : ME} : aC f a env h = (a env h).bind f := Eq.trans rfl rfl
@[simp] theorem Fo {a : MT} : iL a env h = (a env h).bind fun b h1 => .ok (!b) h1 := Eq.trans rfl rfl
@[simp] theorem Fg {a b : MT} : jU a b env h = (a env h).bind fun x h1 => if x = true then b env h1 else .ok false h1 := Eq.trans rfl rfl
@[simp] theorem Gy {a b : MT} : t8 a b env h = (a env h).bind fun x h1 => if x = true then .ok true h1 else b env h1 := Eq.trans rfl rfl
@[simp] theorem GZ {c : MT} {a b : ME} : cIf c a b env h = (c env h).bind fun x h1 => if x = true then a env h1 else b env h1 := Eq.trans rfl rfl
@[simp] theorem GD {b : Bool} : asB (.bl b) h = .ok b h := Eq.trans rfl rfl
@[simp] theorem FW {a b : ME} : vx a b env h = (a env h).bind fun x h1 => (asB x h1).bind fun k h2 => if k = true then b env h2 else .ok (.bl false) h2 := Eq.trans rfl rfl
@[simp] theorem EX {a : ME} : yC a env h = (a env h).bind fun x h1 => (asB x h1).bind fun k h2 => .ok (.bl (!k)) h2 := Eq.trans rfl rfl
@[simp] theorem EL {f f' : D -> D -> Hh -> R D} {a b c : ME} : jX f f' a b c env h = (a env h).bind fun x h1 => (b env h1).bind fun y h2 => (f x y h2).bind fun z h3 => (asB z h3).bind fun k h4 => if k = true then (c env h4).bind fun w h5 => f' y w h5 else .ok (.bl false) h4 := Eq.trans rfl rfl
@[simp] theorem Ef : hJ env h = .ok none h := Eq.trans rfl rfl
noncomputable def Bs : D -> Hh -> R (Option Int) := fun d h1 => match d with
  | .int i => .ok (some i) h1
  | _ => .bad
@[simp] theorem EW {i : Int} : Bs (.int i) h = .ok (some i) h := Eq.trans rfl rfl
@[simp] theorem EY {a : ME} : jn a env h = (a env h).bind Bs := Eq.trans rfl rfl
@[simp] theorem EV {nl : NL} {a : ME} {l u : MO} : iD nl a l u env h = (a env h).bind fun x h1 => (l env h1).bind fun lo h2 => (u env h2).bind fun hi h3 => xu nl x lo hi h3 := Eq.trans rfl rfl
@[simp] theorem Fq : bU env h = .ok (.nx env) h := Eq.trans rfl rfl
@[simp] theorem GK : A2 env h = .ok (.bk env) h := Eq.trans rfl rfl
noncomputable def zb (b : MS) : Fl -> Hh -> R Fl := fun fl h1 => match fl with
  | .nx e => b e h1
  | fl => .ok fl h1
@[simp] theorem GY {b : MS} {e : En} : zb b (.nx e) h = b e h := Eq.trans rfl rfl
@[simp] theorem GW {b : MS} {e : En} : zb b (.bk e) h = .ok (.bk e) h := Eq.trans rfl rfl
@[simp] theorem GV {b : MS} {d : D} : zb b (.rt d) h = .ok (.rt d) h := Eq.trans rfl rfl
@[simp] theorem DO {a b : MS} : aG a b env h = (a env h).bind (zb b) := by
  unfold aG
  first | rfl | (congr 1; funext fl h1; cases fl <;> rfl)
@[simp] theorem FO {a : ME} : fI a env h = (a env h).bind fun _ h1 => .ok (.nx env) h1 := Eq.trans rfl rfl
@[simp] theorem Gp {a : ME} : bH a env h = (a env h).bind fun d h1 => .ok (.rt d) h1 := Eq.trans rfl rfl
@[simp] theorem Gf {c : MT} {a b : MS} : dQ c a b env h = (c env h).bind fun x h1 => if x = true then a env h1 else b env h1 := Eq.trans rfl rfl
@[simp] theorem Gs {i : Nat} {a : ME} : bB i a env h = (a env h).bind fun d h1 => .ok (.nx (env.set i (some d))) h1 := Eq.trans rfl rfl
@[simp] theorem Fs {i : Nat} {d : D} : gN i d env h = .ok (env.set i (some d)) h := Eq.trans rfl rfl
@[simp] theorem Gn {i j : Nat} {x y : D} : gT2 i j (.tup [x, y]) env h = .ok ((env.set i (some x)).set j (some y)) h := Eq.trans rfl rfl
@[simp] theorem GH {i j : Nat} {a : ME} : xq i j a env h = (a env h).bind fun d h1 => (gT2 i j d env h1).bind fun e h2 => .ok (.nx e) h2 := Eq.trans rfl rfl
@[simp] theorem Gz {i : Nat} {f : D -> D -> Hh -> R D} {a : ME} : wx i f a env h = (ag i env h).bind fun x h0 => (a env h0).bind fun y h1 => (f x y h1).bind fun z h2 => .ok (.nx (env.set i (some z))) h2 := Eq.trans rfl rfl
@[simp] theorem EK {f : D -> D -> D -> Hh -> R Unit} {o i v : ME} : qP f o i v env h = (v env h).bind fun x h1 => (o env h1).bind fun y h2 => (i env h2).bind fun z h3 => (f y z x h3).bind fun _ h4 => .ok (.nx env) h4 := Eq.trans rfl rfl
@[simp] theorem ES {o i v : ME} : q_ o i v env h = (o env h).bind fun x h1 => (i env h1).bind fun y h2 => (xU x y h2).bind fun z h3 => (v env h3).bind fun u h4 => (oy z u h4).bind fun t h5 => (ie x y t h5).bind fun _ h6 => .ok (.nx env) h6 := Eq.trans rfl rfl
noncomputable def B0 : Fl -> Hh -> R D := fun fl h1 => match fl with
  | .rt d => .ok d h1
  | .nx _ => .ok .non h1
  | _ => .bad
@[simp] theorem GX {d : D} : B0 (.rt d) h = .ok d h := Eq.trans rfl rfl
@[simp] theorem GS {e : En} : B0 (.nx e) h = .ok .non h := Eq.trans rfl rfl
theorem bF {n : Nat} {m : MS} {ds : List D} : c_ n m ds h = (m (ds.map some ++ List.replicate (n - ds.length) none) h).bind B0 := by
  unfold c_
  first | rfl | (congr 1; funext fl h1; cases fl <;> rfl)
section
variable {nl : NL}
@[simp] theorem F_ {i j : Int} : dG nl (.int i) (.int j) h = .ok (.int (i + j)) h := Eq.trans rfl rfl
@[simp] theorem EU {i j : Int} : oy (.int i) (.int j) h = .ok (.int (i + j)) h := Eq.trans rfl rfl
@[simp] theorem Fd {i j : Int} : eT (.int i) (.int j) h = .ok (.int (i - j)) h := Eq.trans rfl rfl
@[simp] theorem FN {i : Int} : lT (.int i) h = .ok (.int (-i)) h := Eq.trans rfl rfl
@[simp] theorem Gk {i j : Int} : dLt (.int i) (.int j) h = .ok (.bl (decide (i < j))) h := by unfold dLt; rw [ow]; rfl
@[simp] theorem GJ {i j : Int} : dLe (.int i) (.int j) h = .ok (.bl (decide (i <= j))) h := by unfold dLe; rw [rG]; rfl
@[simp] theorem GP {i j : Int} : dGt (.int i) (.int j) h = .ok (.bl (decide (j < i))) h := by unfold dGt; rw [ow]; rfl
@[simp] theorem Gh {i j : Int} : dGe (.int i) (.int j) h = .ok (.bl (decide (j <= i))) h := by unfold dGe; rw [rG]; rfl
@[simp] theorem FR {i j : Int} : sW nl (.int i) (.int j) h = if sml i = true /\ sml j = true then .ok (.int (i * j)) h else .bad := Eq.trans rfl rfl
@[simp] theorem F0 {i j : Int} : yg (.int i) (.int j) h = if 0 < j /\ sml j = true then .ok (.int (i / j)) h else .bad := Eq.trans rfl rfl
@[simp] theorem Ga {i j : Int} : sY (.int i) (.int j) h = if 0 < j then .ok (.int (i % j)) h else .bad := Eq.trans rfl rfl
@[simp] theorem Fv {i j : Int} : zZ (.int i) (.int j) h = if 0 <= j /\ j.natAbs <= 1000 /\ sml i = true then .ok (.int (i ^ j.toNat)) h else .bad := Eq.trans rfl rfl
@[simp] theorem FP {i j : Int} : xP [.int i, .int j] h = .ok (.int (max i j)) h := by
  have : (if j > i then j else i) = max i j := by split <;> omega
  rw [<- this]; rfl
@[simp] theorem Fj {b : Bool} : xF [.bl b] h = .ok (.int (if b then 1 else 0)) h := Eq.trans rfl rfl
@[simp] theorem Gq {ds : List D} : hG ds h = if ds.length <= 1000000 then .ok (.tup ds) h else .bad := Eq.trans rfl rfl
@[simp] theorem GB {ds : List D} : lP nl ds h = if ds.length <= 1000000 then nl ds h else .bad := Eq.trans rfl rfl
@[simp] theorem Fn {ds : List D} : tZ ds h = .ok (.ref h.length) (h ++ [.lst ds]) := Eq.trans rfl rfl
@[simp] theorem Fe {ds : List D} : bh ds h = .ok (.frl ds) h := Eq.trans rfl rfl
@[simp] theorem FI {ds : List D} : ck [.tup ds] h = .ok (.int ds.length) h := Eq.trans rfl rfl
@[simp] theorem Gb {ds : List D} : ck [.frl ds] h = .ok (.int ds.length) h := Eq.trans rfl rfl
@[simp] theorem Fz {ds : List D} : ck [.scr ds] h = .ok (.int ds.length) h := Eq.trans rfl rfl
noncomputable def ixK (ds : List D) (i : Int) (h : Hh) : R D := match atI ds i with
  | some d => .ok d h
  | none => .bad
@[simp] theorem DZ {ds : List D} {i : Int} : dIx (.tup ds) (.int i) h = ixK ds i h := Eq.trans rfl rfl
@[simp] theorem GO {ds : List D} {i : Int} : dIx (.frl ds) (.int i) h = ixK ds i h := Eq.trans rfl rfl
@[simp] theorem GN {ds : List D} {i : Int} : dIx (.scr ds) (.int i) h = ixK ds i h := Eq.trans rfl rfl
theorem oM {n : Nat} {ds : List D} {i : Int} (e : aF h n = some ds) : dIx (.ref n) (.int i) h = ixK ds i h := by
  have z : iN (.ref n) h = some ds := e
  delta dIx; rw [z]; rfl
theorem yZ {ds : List D} {i : Int} {d : D} (e : atI ds i = some d) : ixK ds i h = .ok d h := by simp only [ixK, e]
theorem yA {β : Type} {xs : List β} {j : Nat} {v : β} {i : Int} (h : xs[j]? = some v) (e : i = (j : Int)) : atI xs i = some v := by rw [e]; exact AB h
theorem kW {ds : List D} {i : Int} {j : Nat} {d : D} (e : i = (j : Int)) (e2 : ds[j]? = some d) : ixK ds i h = .ok d h := yZ (yA e2 e)
noncomputable def gI (ns : List Int) (i : Nat) : Int := ns.getD i 0
theorem dm {ns : List Int} {j : Nat} (hj : j < ns.length) : gI ns j = ns[j] := by
  unfold gI; rw [List.getD_eq_getElem?_getD, List.getElem?_eq_getElem hj]; rfl
theorem kL {ns : List Int} {i : Int} {j : Nat} (e : i = (j : Int)) (hj : j < ns.length) : ixK (ns.map D.int) i h = .ok (.int (gI ns j)) h := by
  refine kW e ?_
  rw [List.getElem?_map, List.getElem?_eq_getElem hj, dm hj]; rfl
@[simp] theorem GR {d : D} {ds : List D} : ixK (d :: ds) 0 h = .ok d h := kW (j := 0) rfl rfl
@[simp] theorem GQ {d d1 : D} {ds : List D} : ixK (d :: d1 :: ds) 1 h = .ok d1 h := kW (j := 1) rfl rfl
theorem zB {β : Type} {xs : List β} {x : β} : atI (xs ++ [x]) (-1) = some x := by
  unfold atI ixN
  rw [if_neg (by decide), if_pos (by simp; omega)]
  have : ((-1 : Int) + ((xs ++ [x]).length : Nat)).toNat = xs.length := by simp; omega
  rw [this]; simp
@[simp] theorem DC {xs : List D} {x : D} : ixK (xs ++ [x]) (-1) h = .ok x h := yZ zB
@[simp] theorem FD {ds : List D} {lo hi : Option Int} : xu nl (.tup ds) lo hi h = .ok (.tup (cutD ds lo hi)) h := Eq.trans rfl rfl
@[simp] theorem FL {ds : List D} {lo hi : Option Int} : xu nl (.scr ds) lo hi h = nl (cutD ds lo hi) h := Eq.trans rfl rfl
@[simp] theorem Fy {a b : List D} : dG nl (.tup a) (.tup b) h = if a.length + b.length <= 1000000 then .ok (.tup (a ++ b)) h else .bad := Eq.trans rfl rfl
@[simp] theorem Ff {a b : List D} : dG nl (.frl a) (.frl b) h = if a.length + b.length <= 1000000 then nl (a ++ b) h else .bad := Eq.trans rfl rfl
@[simp] theorem E8 {a : List D} {k : Int} : sW nl (.frl a) (.int k) h = if k.natAbs <= 1000000 /\ a.length * k.toNat <= 1000000 then nl (List.replicate k.toNat a).flatten h else .bad := Eq.trans rfl rfl
@[simp] theorem FU {ds : List D} : ka [.frl ds] h = .ok (.tup ds) h := Eq.trans rfl rfl
@[simp] theorem Gd {ns : List Int} : rg [.frl (ns.map D.int)] h = .ok (.int ns.sum) h := by simp only [rg, iN, j6]
@[simp] theorem Ft {b : Bool} : mN (.bl b) h = .ok b h := Eq.trans rfl rfl
@[simp] theorem Gm {i j : Int} : dEq (.int i) (.int j) h = .ok (.bl (i == j)) h := Eq.trans rfl rfl
@[simp] theorem GI {i j : Int} : dNe (.int i) (.int j) h = .ok (.bl (!(i == j))) h := Eq.trans rfl rfl
@[simp] theorem Gv {neg : Bool} {d : D} : mG neg d .non h = .ok (.bl (if neg then !i7 d else i7 d)) h := Eq.trans rfl rfl
@[simp] theorem E9 {i : Int} : qS "int" (.int i) h = .ok (.bl true) h := Eq.trans rfl rfl
@[simp] theorem Fh {i : Int} : qS "bool" (.int i) h = .ok (.bl false) h := Eq.trans rfl rfl
@[simp] theorem Ge {ds : List D} : qS "tuple" (.tup ds) h = .ok (.bl true) h := Eq.trans rfl rfl
@[simp] theorem DB {j : Int} : lH nl [.int j] h = if j.natAbs <= 1000000 then nl (cA 0 j.toNat) h else .bad := by
  by_cases z : j.natAbs <= 1000000
  · rw [if_pos z]; simp only [lH, wa, if_pos z]
  · rw [if_neg z]; simp only [lH, wa, if_neg z]
@[simp] theorem fE {ds : List D} {t : Hh} : aF (h ++ .lst ds :: t) h.length = some ds := by
  unfold aF; rw [List.getElem?_append_right (Nat.le_refl _)]; simp
@[simp] theorem kU {o o' : O} {t : Hh} : (h ++ o :: t).set h.length o' = h ++ o' :: t := by
  rw [List.set_append_right _ _ (Nat.le_refl _)]; simp
theorem xr {n : Nat} {ds : List D} (e : aF h n = some ds) : isL (.ref n) h = true := by simp [isL, e]
theorem yW {n : Nat} {ds : List D} {d : D} (e : aF h n = some ds) : iG (.ref n) [d] h = if ds.length < 1000000 then .ok .non (h.set n (.lst (ds ++ [d]))) else .bad := by delta iG; dsimp only; rw [e]
theorem BO {n : Nat} {ds : List D} (e : aF h n = some ds) : ck [.ref n] h = .ok (.int ds.length) h := by
  unfold aF at e
  split at e
  · rename_i ds' q; cases e; delta ck; dsimp only; rw [q]
  · cases e
theorem mW {n : Nat} {ds : List D} {i : Int} {j : Nat} {v : D} (e : aF h n = some ds) (e2 : ixN ds.length i = some j) : ie (.ref n) (.int i) v h = .ok () (h.set n (.lst (ds.set j v))) := by delta ie; dsimp only; rw [e]; dsimp only; rw [e2]
@[simp] theorem ET {k : List Int} {t : Hh} : ck [.ref h.length] (h ++ .set k :: t) = .ok (.int k.length) (h ++ .set k :: t) := by
  have : (h ++ O.set k :: t)[h.length]? = some (.set k) := by rw [List.getElem?_append_right (Nat.le_refl _)]; simp
  delta ck; dsimp only; rw [this]
@[simp] theorem E6 {ns : List Int} : uA [.tup (ns.map D.int)] h = if ns.length <= 4000 then .ok (.ref h.length) (h ++ [.set (unl ns)]) else .bad := by delta uA; dsimp only; rw [j6]
@[simp] theorem E4 {ds : List D} {t : Hh} : isL (.ref h.length) (h ++ .lst ds :: t) = true := xr fE
@[simp] theorem Dj {ds : List D} {d : D} {t : Hh} : iG (.ref h.length) [d] (h ++ .lst ds :: t) = if ds.length < 1000000 then .ok .non (h ++ .lst (ds ++ [d]) :: t) else .bad := by rw [yW fE, kU]
@[simp] theorem GC {ds : List D} {i : Int} {t : Hh} : dIx (.ref h.length) (.int i) (h ++ .lst ds :: t) = ixK ds i (h ++ .lst ds :: t) := oM fE
theorem vR {n j : Nat} {i : Int} (e : i = (j : Int)) (hj : j < n) : ixN n i = some j := by
  subst e
  unfold ixN
  rw [if_pos (by omega), if_pos (by omega)]; simp
end
@[simp] theorem FF {a : MA} : iQ jo a env h = (a env h).bind jo := Eq.trans rfl rfl
@[simp] theorem FX {a : MA} : iQ uZ a env h = (a env h).bind uZ := Eq.trans rfl rfl
@[simp] theorem E3 {j : Int} : jo [.int j] h = if j.natAbs <= 1000000 then .ok (.snap (cA 0 j.toNat)) h else .bad := Eq.trans rfl rfl
@[simp] theorem F8 {i j : Int} : uZ [.int i, .int j] h = if i.natAbs <= 1000000 /\ j.natAbs <= 1000000 then .ok (.snap (cA i (j - i).toNat)) h else .bad := Eq.trans rfl rfl
@[simp] theorem Gw {a : ME} : fH a env h = (a env h).bind zw := Eq.trans rfl rfl
@[simp] theorem E7 {a : ME} : lE a env h = (a env h).bind tN := Eq.trans rfl rfl
@[simp] theorem Gx {ds : List D} : zw (.tup ds) h = .ok (.snap ds) h := Eq.trans rfl rfl
@[simp] theorem GA {ds : List D} : zw (.frl ds) h = .ok (.snap ds) h := Eq.trans rfl rfl
@[simp] theorem Fb {a : MA} : sL a env h = (a env h).bind An := Eq.trans rfl rfl
@[simp] theorem E5 {ds es : List D} : An [.frl ds, .frl es] h = .ok (.snap (jF ds es)) h := Eq.trans rfl rfl
noncomputable def EB (tg : D -> En -> Hh -> R En) (body : MS) (env : En) : Src -> Hh -> R Fl := fun sr h1 => match sr with
  | .snap ds => ff tg body ds env h1
  | .live n => lA (Src.live n).rdr tg body ((aF h1 n).getD []).length 0 env h1
  | .liveE n => lA (Src.liveE n).rdr tg body ((aF h1 n).getD []).length 0 env h1
@[simp] theorem EZ {tg : D -> En -> Hh -> R En} {body : MS} {ds : List D} : EB tg body env (.snap ds) h = ff tg body ds env h := Eq.trans rfl rfl
@[simp] theorem Gr {mi : MI} {tg : D -> En -> Hh -> R En} {body : MS} : fY mi tg body env h = (mi env h).bind (EB tg body env) := by
  unfold fY
  congr 1
noncomputable def D8 (nl : NL) (tt : MT) (te : ME) (ee : D -> En) : Src -> Hh -> R D := fun sr h1 => if sr.fuel h1 <= 1000000 then
  (match sr with
    | .snap ds => cL tt te ee ds h1
    | .live n => gB (Src.live n).rdr tt te ee ((aF h1 n).getD []).length 0 [] h1
    | .liveE n => gB (Src.liveE n).rdr tt te ee ((aF h1 n).getD []).length 0 [] h1).bind nl else .bad
@[simp] theorem Fp {nl : NL} {mi : MI} {ix : List Nat} {tt : MT} {te : ME} : cW nl mi ix tt te env h = (mi env h).bind (D8 nl tt te (iR ix env)) := Eq.trans rfl rfl
@[simp] theorem EO {nl : NL} {tt : MT} {te : ME} {ee : D -> En} {ds : List D} : D8 nl tt te ee (.snap ds) h = if ds.length <= 1000000 then (cL tt te ee ds h).bind nl else .bad := Eq.trans rfl rfl
@[simp] theorem Dh {lo : Int} {n : Nat} : (cA lo n).length = n := by simp [cA]
@[simp] theorem Gu {ix : List Nat} : iR ix env = fun d => some d :: ix.map fun i => (env[i]?).join := Eq.trans rfl rfl
@[simp] theorem D2 : tt1 env h = .ok true h := Eq.trans rfl rfl
@[simp] theorem GL {m : En -> Hh -> R β} {x y : D} {r : En} : unp m (some (.tup [x, y]) :: r) h = m (some x :: some y :: r) h := Eq.trans rfl rfl
@[simp] theorem EN {f : Nat} {c : MT} {b : MS} : oB f c b env h = gT c b f env h := Eq.trans rfl rfl
noncomputable def BR (tg : D -> En -> Hh -> R En) (body : MS) (ds : List D) : Fl -> Hh -> R Fl := fun fl h2 => match fl with
  | .nx e => ff tg body ds e h2
  | .ct e => ff tg body ds e h2
  | .bk e => .ok (.nx e) h2
  | .rt d => .ok (.rt d) h2
theorem Am {tg : D -> En -> Hh -> R En} {body : MS} : ff tg body [] env h = .ok (.nx env) h := rfl
theorem nX {tg : D -> En -> Hh -> R En} {body : MS} {d : D} {ds : List D} : ff tg body (d :: ds) env h = (tg d env h).bind fun e1 h1 => (body e1 h1).bind (BR tg body ds) := rfl
@[simp] theorem GF {tg : D -> En -> Hh -> R En} {body : MS} {ds : List D} {e : En} : BR tg body ds (.nx e) h = ff tg body ds e h := Eq.trans rfl rfl
@[simp] theorem Gg {tg : D -> En -> Hh -> R En} {body : MS} {ds : List D} {e : En} : BR tg body ds (.bk e) h = .ok (.nx e) h := Eq.trans rfl rfl
theorem wZ (ns : List Int) : f6 (ns.map D.int) = (List.range ns.length).map fun (i : Nat) => D.tup [.int i, .int (gI ns i)] := by
  unfold f6
  rw [List.length_map]
  apply List.map_congr_left
  intro i hi
  have hi : i < ns.length := List.mem_range.mp hi
  rw [List.getD_eq_getElem?_getD, List.getElem?_map, List.getElem?_eq_getElem hi, dm hi]; rfl
theorem ng {σ X : Type} {tg : D -> En -> Hh -> R En} {body : MS} (E : σ -> En) (G : σ -> Hh) (enc : X -> D) (f : σ -> X -> σ) (I : List X -> σ -> Prop) (st : ∀ s x r, I (x :: r) s -> I r (f s x) /\ ((tg (enc x) (E s) (G s)).bind body = .ok (.nx (E (f s x))) (G (f s x)) \/ (tg (enc x) (E s) (G s)).bind body = .ok (.ct (E (f s x))) (G (f s x)))) :
    ∀ (xs : List X) (s : σ), I xs s -> ff tg body (xs.map enc) (E s) (G s) = .ok (.nx (E (xs.foldl f s))) (G (xs.foldl f s)) /\ I [] (xs.foldl f s)
  | [], s, i => ⟨rfl, i⟩
  | x :: xs, s, i => by
    obtain ⟨i1, e⟩ := st s x xs i
    obtain ⟨e2, i2⟩ := ng E G enc f I st xs (f s x) i1
    refine ⟨?_, i2⟩
    rw [List.map_cons, ff]
    rw [<- cB]
    rcases e with e | e <;> rw [e] <;> exact e2
theorem comp_map {X : Type} {tt : MT} {te : ME} {ee : D -> En} (enc : X -> D) (p : X -> Bool) (g : X -> D) : ∀ (xs : List X), (∀ x ∈ xs, tt (ee (enc x)) h = .ok (p x) h /\ (p x = true -> te (ee (enc x)) h = .ok (g x) h)) →
    cL tt te ee (xs.map enc) h = .ok ((xs.filter p).map g) h
  | [], _ => rfl
  | x :: xs, st => by
    obtain ⟨e1, e2⟩ := st x List.mem_cons_self
    have ih := comp_map enc p g xs fun y hy => st y (List.mem_cons_of_mem _ hy)
    rw [List.map_cons, cL, e1, fF]
    cases hp : p x with
    | false => rw [if_neg Bool.false_ne_true, ih, List.filter_cons_of_neg (by simp [hp])]
    | true => rw [if_pos rfl, e2 hp, fF, ih, fF, List.filter_cons_of_pos hp, List.map_cons]
theorem k4 {X : Type} {te : ME} {ee : D -> En} (enc : X -> D) (g : X -> D) (xs : List X) (st : ∀ x ∈ xs, te (ee (enc x)) h = .ok (g x) h) : cL tt1 te ee (xs.map enc) h = .ok (xs.map g) h := by
  have := comp_map (tt := tt1) (ee := ee) (h := h) enc (fun _ => true) g xs fun x hx => ⟨rfl, fun _ => st x hx⟩
  rw [List.filter_eq_self.mpr fun _ _ => rfl] at this
  exact this
theorem jx (n : Nat) : cA 0 n = (List.range n).map fun (i : Nat) => D.int i := by
  unfold cA
  apply List.map_congr_left
  intro i _
  rw [Int.zero_add]
theorem yy {n : Nat} {tt : MT} {te : ME} {ee : D -> En} (p : Nat -> Bool) (g : Nat -> D) (st : ∀ i, i < n -> tt (ee (.int (i : Nat))) h = .ok (p i) h /\ (p i = true -> te (ee (.int (i : Nat))) h = .ok (g i) h)) :
    cL tt te ee (cA 0 n) h = .ok (((List.range n).filter p).map g) h := by
  rw [jx, comp_map (fun (i : Nat) => D.int i) p g (List.range n) fun i hi => st i (List.mem_range.mp hi)]
theorem wy {n : Nat} {te : ME} {ee : D -> En} (g : Nat -> D) (st : ∀ i, i < n -> te (ee (.int (i : Nat))) h = .ok (g i) h) :
    cL tt1 te ee (cA 0 n) h = .ok ((List.range n).map g) h := by
  rw [jx, k4 (fun (i : Nat) => D.int i) g (List.range n) fun i hi => st i (List.mem_range.mp hi)]
theorem vF {σ : Type} {tg : D -> En -> Hh -> R En} {body : MS} (enc : Nat -> D) (n : Nat) (E : σ -> En) (G : σ -> Hh) (f : σ -> Nat -> σ) (I : Nat -> σ -> Prop) (s : σ) (i0 : I 0 s)
    (st : ∀ i s, i < n -> I i s -> I (i + 1) (f s i) /\ ((tg (enc i) (E s) (G s)).bind body = .ok (.nx (E (f s i))) (G (f s i)) \/ (tg (enc i) (E s) (G s)).bind body = .ok (.ct (E (f s i))) (G (f s i)))) :
    ff tg body ((List.range n).map enc) (E s) (G s) = .ok (.nx (E ((List.range n).foldl f s))) (G ((List.range n).foldl f s)) /\ I n ((List.range n).foldl f s) := by
  have key : ∀ (k : Nat) (xs : List Nat) (s : σ), (∀ j x, xs[j]? = some x -> x = k + j /\ x < n) -> I k s -> ff tg body (xs.map enc) (E s) (G s) = .ok (.nx (E (xs.foldl f s))) (G (xs.foldl f s)) /\ I (k + xs.length) (xs.foldl f s) := by
    intro k xs
    induction xs generalizing k with
    | nil => intro s _ i; exact ⟨rfl, i⟩
    | cons x xs ih =>
      intro s hx i
      obtain ⟨h1, h2⟩ := hx 0 x rfl
      have h1 : x = k := by omega
      subst h1
      obtain ⟨i1, e⟩ := st x s h2 i
      obtain ⟨e2, i2⟩ := ih (x + 1) (f s x) (fun j y hj => by have := hx (j + 1) y hj; omega) i1
      refine ⟨?_, by rw [List.length_cons, List.foldl_cons]; rw [show x + (xs.length + 1) = x + 1 + xs.length by omega]; exact i2⟩
      rw [List.map_cons, ff, <- cB]
      rcases e with e | e <;> rw [e] <;> exact e2
  have hr : ∀ j x, (List.range n)[j]? = some x -> x = 0 + j /\ x < n := fun j x hj => by
    have hl : j < n := by
      by_cases hl : j < n
      · exact hl
      · rw [List.getElem?_eq_none (by simpa using hl)] at hj; cases hj
    rw [List.getElem?_range hl] at hj
    cases hj
    omega
  have := key 0 (List.range n) s hr i0
  rw [List.length_range, Nat.zero_add] at this
  exact this
theorem xV {σ : Type} {tg : D -> En -> Hh -> R En} {body : MS} (lo : Int) (n : Nat) (E : σ -> En) (G : σ -> Hh) (f : σ -> Nat -> σ) (I : Nat -> σ -> Prop) (s : σ) (i0 : I 0 s)
    (st : ∀ i s, i < n -> I i s -> I (i + 1) (f s i) /\ ((tg (.int (lo + (i : Nat))) (E s) (G s)).bind body = .ok (.nx (E (f s i))) (G (f s i)) \/ (tg (.int (lo + (i : Nat))) (E s) (G s)).bind body = .ok (.ct (E (f s i))) (G (f s i)))) :
    ff tg body (cA lo n) (E s) (G s) = .ok (.nx (E ((List.range n).foldl f s))) (G ((List.range n).foldl f s)) /\ I n ((List.range n).foldl f s) :=
  vF (fun (i : Nat) => D.int (lo + i)) n E G f I s i0 st
theorem pV {σ X : Type} {te : ME} {ee : D -> En} (G : σ -> Hh) (enc : X -> D) (f : σ -> X -> σ) (g : σ -> X -> D) (I : List X -> σ -> Prop) (st : ∀ s x r, I (x :: r) s -> I r (f s x) /\ te (ee (enc x)) (G s) = .ok (g s x) (G (f s x))) :
    ∀ (xs : List X) (s : σ), I xs s -> ∃ ys, cL tt1 te ee (xs.map enc) (G s) = .ok ys (G (xs.foldl f s)) /\ I [] (xs.foldl f s) /\ ys = (xs.foldl (fun (a : σ × List D) x => (f a.1 x, a.2 ++ [g a.1 x])) (s, [])).2
  | [], s, i => ⟨[], rfl, i, rfl⟩
  | x :: xs, s, i => by
    obtain ⟨i1, e⟩ := st s x xs i
    obtain ⟨ys, e2, i2, e3⟩ := pV G enc f g I st xs (f s x) i1
    refine ⟨g s x :: ys, ?_, i2, ?_⟩
    · rw [List.map_cons, cL, D2, fF, if_pos rfl, e, fF, e2]; rfl
    · rw [List.foldl_cons, e3]
      have key : ∀ (xs : List X) (s : σ) (a b : List D), (xs.foldl (fun (a : σ × List D) x => (f a.1 x, a.2 ++ [g a.1 x])) (s, a ++ b)).2 = a ++ (xs.foldl (fun (a : σ × List D) x => (f a.1 x, a.2 ++ [g a.1 x])) (s, b)).2 := by
        intro xs
        induction xs with
        | nil => intro s a b; rfl
        | cons x xs ih => intro s a b; rw [List.foldl_cons, List.foldl_cons, List.append_assoc]; exact ih _ _ _
      have := key xs (f s x) [g s x] []
      simpa using this.symm
noncomputable def Wf (h : Hh) : Prop := h.all (s_ h.length) = true
mutual
theorem wt {j k : Nat} (h : j <= k) : ∀ (d : D), jB j d = true -> jB k d = true
  | .non, _ => rfl | .bl _, _ => rfl | .int _, _ => rfl | .str _, _ => rfl | .fn _, _ => rfl | .edic, _ => rfl | .exc _ _, _ => rfl
  | .clo _ ds, e => by simp only [jB] at e ⊢; exact dI h ds e
  | .ref n, e => by simp only [jB, decide_eq_true_eq] at e ⊢; omega
  | .tup ds, e => by simp only [jB] at e ⊢; exact dI h ds e
  | .frl ds, e => by simp only [jB] at e ⊢; exact dI h ds e
  | .scr ds, e => by simp only [jB] at e ⊢; exact dI h ds e
theorem dI {j k : Nat} (h : j <= k) : ∀ (ds : List D), cz j ds = true -> cz k ds = true
  | [], _ => rfl
  | d :: ds, e => by
    simp only [cz, Bool.and_eq_true] at e ⊢
    exact ⟨wt h d e.1, dI h ds e.2⟩
end
theorem wL {j k : Nat} (h : j <= k) (o : O) (e : s_ j o = true) : s_ k o = true := by
  cases o with
  | lst ds => exact dI h ds e
  | set n => rfl
  | dic kvs => exact dI h _ e
  | dit kvs => exact dI h _ e
theorem lM {k : Nat} : ∀ {ds : List D}, (∀ d ∈ ds, jB k d = true) -> cz k ds = true
  | [], _ => rfl
  | d :: ds, h => by simp only [cz, Bool.and_eq_true]; exact ⟨h d List.mem_cons_self, lM fun e he => h e (List.mem_cons_of_mem _ he)⟩
@[simp] theorem qq {X : Type} {k : Nat} {f : X -> D} {xs : List X} (h : ∀ x, jB k (f x) = true) : cz k (xs.map f) = true := lM fun d hd => by
  obtain ⟨x, _, rfl⟩ := List.mem_map.mp hd; exact h x
@[simp] theorem uI {k : Nat} {ns : List Int} : cz k (ns.map D.int) = true := qq fun _ => rfl
theorem Wf.nil : Wf [] := rfl
theorem Wf.app {h : Hh} {o : O} (w : Wf h) (l : s_ (h.length + 1) o = true) : Wf (h ++ [o]) := by
  unfold Wf at w ⊢
  rw [List.all_append, List.length_append, List.length_singleton]
  simp only [List.all_cons, List.all_nil, Bool.and_true, Bool.and_eq_true]
  refine ⟨?_, l⟩
  rw [List.all_eq_true] at w ⊢
  exact fun x hx => wL (Nat.le_succ _) x (w x hx)
noncomputable def deep : Nat -> D -> Bool
  | 0, _ => false
  | f + 1, d => match d with
    | .ref _ => false
    | .scr _ => false
    | .tup ds => ds.all (deep f)
    | .frl ds => ds.all (deep f)
    | .clo _ ds => cz 0 ds
    | _ => true
theorem mZ {f : D -> Option D} : ∀ {ds : List D}, (∀ d ∈ ds, f d = some d) -> lW f ds = some ds
  | [], _ => rfl
  | d :: ds, h => by simp only [lW, h d List.mem_cons_self, mZ fun e he => h e (List.mem_cons_of_mem _ he)]
theorem jt {k : Nat} {h : Hh} : ∀ (f : Nat) (d : D), deep f d = true -> gO k h f d = some d
  | 0, _, e => by cases e
  | f + 1, d, e => by
    unfold deep at e
    unfold gO
    cases d with
    | ref n => cases e
    | scr n => cases e
    | tup ds => simp only [List.all_eq_true] at e; show Option.map D.tup (lW (gO k h f) ds) = _; rw [mZ (f := gO k h f) fun d hd => jt f d (e d hd)]; rfl
    | frl ds => simp only [List.all_eq_true] at e; show Option.map D.frl (lW (gO k h f) ds) = _; rw [mZ (f := gO k h f) fun d hd => jt f d (e d hd)]; rfl
    | clo g ds => show (if cz 0 ds = true then some (D.clo g ds) else none) = _; rw [if_pos (show cz 0 ds = true from e)]
    | _ => rfl
theorem hX {d : D} {t : Hh} (w : Wf h) (e : deep 8 d = true) : eZ h d (h ++ t) = .ok d h := by
  unfold eZ
  rw [List.take_left' rfl, if_pos (show h.all (s_ h.length) = true from w), jt 8 d e]
theorem p8 {ds : List D} {t : Hh} (w : Wf h) (e : ds.all (deep 7) = true) : eZ h (.ref h.length) (h ++ .lst ds :: t) = .ok (.frl ds) h := by
  unfold eZ
  rw [List.take_left' rfl, if_pos (show h.all (s_ h.length) = true from w)]
  have : gO h.length (h ++ .lst ds :: t) 8 (.ref h.length) = some (.frl ds) := by
    unfold gO
    simp only [Nat.lt_irrefl, if_false, fE]
    rw [List.all_eq_true] at e
    rw [mZ fun d hd => jt 7 d (e d hd)]; rfl
  rw [this]
@[simp] theorem Dr {f : Nat} {i : Int} : deep (f + 1) (.int i) = true := rfl
@[simp] theorem ER {f : Nat} {i : Bool} : deep (f + 1) (.bl i) = true := rfl
@[simp] theorem Et {f : Nat} {i : Str} : deep (f + 1) (.str i) = true := rfl
@[simp] theorem D3 {f : Nat} : deep (f + 1) .non = true := rfl
@[simp] theorem Di {f : Nat} : deep (f + 1) .edic = true := rfl
@[simp] theorem Dm {f : Nat} {ds : List D} : deep (f + 1) (.tup ds) = ds.all (deep f) := rfl
@[simp] theorem DJ {f : Nat} {ds : List D} : deep (f + 1) (.frl ds) = ds.all (deep f) := rfl
end
noncomputable def Ok {β : Type} (r : R β) (Q : β -> Hh -> Prop) : Prop := ∃ b h, r = .ok b h /\ Q b h
section
variable {β γ : Type} {Q : β -> Hh -> Prop} {h h1 h2 : Hh}
theorem Ok.mono {r : R β} {Q' : β -> Hh -> Prop} (o : Ok r Q) (q : ∀ b h, Q b h -> Q' b h) : Ok r Q' := let ⟨b, h, e, z⟩ := o; ⟨b, h, e, q b h z⟩
end
theorem qC {X : Type} {tg : D -> En -> Hh -> R En} {body : MS} {QS : Fl -> Hh -> Prop} (enc : X -> D) (I : En -> Hh -> Prop) :
    ∀ (xs : List X) (env : En) (h : Hh), I env h -> (∀ x e h, x ∈ xs -> I e h -> Ok ((tg (enc x) e h).bind body) fun fl h2 => match fl with
      | .nx e => I e h2
      | .ct e => I e h2
      | .bk e => QS (.nx e) h2
      | .rt d => QS (.rt d) h2) -> (∀ e h, I e h -> QS (.nx e) h) -> Ok (ff tg body (xs.map enc) env h) QS
  | [], env, h, i, _, q => ⟨_, _, rfl, q _ _ i⟩
  | x :: xs, env, h, i, st, q => by
    obtain ⟨fl, h2, e, z⟩ := st x env h List.mem_cons_self i
    rw [List.map_cons, ff, <- cB, e, fF]
    cases fl with
    | nx e' => exact qC enc I xs e' h2 z (fun y e h hy => st y e h (List.mem_cons_of_mem _ hy)) q
    | ct e' => exact qC enc I xs e' h2 z (fun y e h hy => st y e h (List.mem_cons_of_mem _ hy)) q
    | bk e => exact ⟨_, _, rfl, z⟩
    | rt d => exact ⟨_, _, rfl, z⟩
end L2.FE
namespace L2.FE
open PySem PySem.Spec PyProof.Rows
noncomputable def BA (h : Hh) (n : Nat) : Option (List (Key × D)) := match h[n]? with
  | some (.dic kvs) => some kvs
  | _ => none
noncomputable abbrev PD (K : PySem.W.Frag) (g : GG) (α : List Addr) (H : Hp) : List (Key × D) -> List (Key × V) -> Prop := Paired (fun (a : Key × D) (b : Key × V) => a.1 = b.1 /\ aH K g α H a.2 b.2)
section
variable {K : PySem.W.Frag} {g : GG} {α : List Addr} {H : Hp} {h : Hh}
theorem aW.dic {n : Nat} {p : Addr} {kvs : List (Key × D)} (r : aW K g α H h) (e : BA h n = some kvs) (hp : α[n]? = some p) : ∃ kws, H p = some (.dK kws) /\ PD K g α H kvs kws := by
  unfold BA at e
  cases eo : h[n]? with
  | none => rw [eo] at e; cases e
  | some o =>
    rw [eo] at e
    cases o with
    | dic k => cases e; exact r.here n p _ hp eo
    | _ => cases e
theorem PD.ext {α' : List Addr} {H' : Hp} {kvs : List (Key × D)} {kws : List (Key × V)} (e : Ext K α H α' H') (r : PD K g α H kvs kws) : PD K g α' H' kvs kws := Paired.DV e.toEx0 r
theorem aR.dic {Q : VK} {kvs : List (Key × D)} {kws : List (Key × V)} {p : Addr} (w : aR K g α H Q (.ref h.length) (h ++ [.dic kvs])) (r : aW K g α H h) (rs : PD K g α H kvs kws) (hp : H p = none) : Q (.ref p) (upd H p (.dK kws)) := by
  have x := Ext.push (K := K) (α := α) (o := .dK kws) hp
  exact w _ _ _ x (r.push hp ⟨_, bj, rs.ext x⟩) (.ref (by rw [<- r.len]; simp))
end
theorem us0 {P : List Value -> Prop} {us : List Value} (hl : us.length = 0) (h : P []) : P us := by cases us with | nil => exact h | cons _ _ => cases hl
theorem us1 {P : List Value -> Prop} {us : List Value} (hl : us.length = 1) (h : ∀ a, P [a]) : P us := by cases us with | nil => cases hl | cons a us => exact us0 (P := fun us => P (a :: us)) (Nat.succ.inj hl) (h a)
theorem us2 {P : List Value -> Prop} {us : List Value} (hl : us.length = 2) (h : ∀ a b, P [a, b]) : P us := by cases us with | nil => cases hl | cons a us => exact us1 (P := fun us => P (a :: us)) (Nat.succ.inj hl) (h a)
theorem us3 {P : List Value -> Prop} {us : List Value} (hl : us.length = 3) (h : ∀ a b c, P [a, b, c]) : P us := by cases us with | nil => cases hl | cons a us => exact us2 (P := fun us => P (a :: us)) (Nat.succ.inj hl) (h a)
theorem kh {fd : FuncData} {ps : List Str} {us : List Value} (hl : us.length = 1) (h : ∀ a : Value, bindArgs fd ⟨[a], []⟩ = pure (ps.zip [a])) : bindArgs fd ⟨us, []⟩ = pure (ps.zip us) := us1 (P := fun us => bindArgs fd ⟨us, []⟩ = pure (ps.zip us)) hl h
theorem qy {fd : FuncData} {ps : List Str} {us : List Value} (hl : us.length = 2) (h : ∀ a b : Value, bindArgs fd ⟨[a, b], []⟩ = pure (ps.zip [a, b])) : bindArgs fd ⟨us, []⟩ = pure (ps.zip us) := us2 (P := fun us => bindArgs fd ⟨us, []⟩ = pure (ps.zip us)) hl h
theorem tW {fd : FuncData} {ps : List Str} {us : List Value} (hl : us.length = 3) (h : ∀ a b c : Value, bindArgs fd ⟨[a, b, c], []⟩ = pure (ps.zip [a, b, c])) : bindArgs fd ⟨us, []⟩ = pure (ps.zip us) := us3 (P := fun us => bindArgs fd ⟨us, []⟩ = pure (ps.zip us)) hl h
end L2.FE
namespace L2.Srt
open PySem PySem.W PyProof.Rows
section
variable {n : Nat} {key : Nat -> Int}
structure Pm (n : Nat) (p : Array Nat) : Prop where
  size : p.size = n
  perm : p.Perm (List.range n).toArray
theorem Pm.lt {p : Array Nat} (h : Pm n p) {i : Nat} (hi : i < n) : p.getD i 0 < n := by
  have hi' : i < p.size := by rw [h.size]; exact hi
  have e : p.getD i 0 = p[i] := by simp [Array.getD, hi']
  rw [e]
  have := h.perm.mem_iff.mp (Array.getElem_mem hi')
  simpa using this
variable (inj : ∀ i j, i < n -> j < n -> key i = key j -> i = j)
include inj
omit inj in
omit inj in
omit inj in
omit inj in
omit inj in
omit inj in
end
end L2.Srt
namespace L2.Srt
open PySem PySem.W PyProof.Rows PySem.Calls
section
variable {prog : Program} {w : World} {A : Around} {E : Value -> Shared -> Prop} {s : Shared} {vs : List Value}
inductive Prs (h : Heap) : List Value -> List (Int × Int) -> Prop
  | nil : Prs h [] []
  | cons {a : Addr} {o : Obj} {k : Nat} {t u : Tok} {x y : Int} {vs : List Value} {ps : List (Int × Int)} : h.get? a = some o -> o.cls = .type "tuple" -> o.data = .seq #[.int x t, .int y u] k -> Prs h vs ps -> Prs h (.ref a :: vs) ((x, y) :: ps)
theorem Prs.len {h : Heap} {vs : List Value} {ps : List (Int × Int)} (r : Prs h vs ps) : vs.length = ps.length := by
  induction r with
  | nil => rfl
  | cons _ _ _ _ ih => simp [ih]
end
end L2.Srt
namespace L2
open PySem PySem.Spec PyProof.Rows L2.Srt
inductive PrV (K : PySem.W.Frag) (H : Hp) : List V -> List (Int × Int) -> Prop
  | nil : PrV K H [] []
  | cons {a : Addr} {x y : Int} {xs : List V} {ps : List (Int × Int)} : SqT K H a [.int x, .int y] -> PrV K H xs ps -> PrV K H (.ref a :: xs) ((x, y) :: ps)
section
variable {X : Cx}
theorem PrV.len {K : PySem.W.Frag} {H : Hp} {xs : List V} {ps : List (Int × Int)} (r : PrV K H xs ps) : xs.length = ps.length := by
  induction r with
  | nil => rfl
  | cons _ _ ih => simp [ih]
end
end L2
namespace L2.FE
open PySem PySem.Spec PyProof.Rows
noncomputable def setOf (h : Hh) (n : Nat) : Option (List Int) := match h[n]? with
  | some (.set ns) => some ns
  | _ => none
section
variable {X : Cx} {g : GG} {ε : EE} {K : PySem.W.Frag}
theorem aW.set {α : List Addr} {H : Hp} {h : Hh} {n : Nat} {p : Addr} {ns : List Int} (r : aW K g α H h) (e : setOf h n = some ns) (hp : α[n]? = some p) : H p = some (.set (fun k => ns.any (· == k)) ns.length) := by
  unfold setOf at e
  cases eo : h[n]? with
  | none => rw [eo] at e; cases e
  | some o =>
    rw [eo] at e
    cases o with
    | set k => cases e; exact r.here n p _ hp eo
    | _ => cases e
end
noncomputable def Bz (h : Hh) (n : Nat) : Option (List (List Key × D)) := match h[n]? with
  | some (.dit kvs) => some kvs
  | _ => none
noncomputable abbrev PDT (K : PySem.W.Frag) (g : GG) (α : List Addr) (H : Hp) : List (List Key × D) -> List (List Key × V) -> Prop := Paired (fun (a : List Key × D) (b : List Key × V) => a.1 = b.1 /\ aH K g α H a.2 b.2)
section
variable {K : PySem.W.Frag} {g : GG} {α : List Addr} {H : Hp} {h : Hh}
theorem aW.dit {n : Nat} {p : Addr} {kvs : List (List Key × D)} (r : aW K g α H h) (e : Bz h n = some kvs) (hp : α[n]? = some p) : ∃ kws, H p = some (.dT kws) /\ PDT K g α H kvs kws := by
  unfold Bz at e
  cases eo : h[n]? with
  | none => rw [eo] at e; cases e
  | some o =>
    rw [eo] at e
    cases o with
    | dit k => cases e; exact r.here n p _ hp eo
    | _ => cases e
theorem PDT.ext {α' : List Addr} {H' : Hp} {kvs : List (List Key × D)} {kws : List (List Key × V)} (e : Ext K α H α' H') (r : PDT K g α H kvs kws) : PDT K g α' H' kvs kws := Paired.Ed e.toEx0 r
theorem aR.dit {Q : VK} {kvs : List (List Key × D)} {kws : List (List Key × V)} {p : Addr} (w : aR K g α H Q (.ref h.length) (h ++ [.dit kvs])) (r : aW K g α H h) (rs : PDT K g α H kvs kws) (hp : H p = none) : Q (.ref p) (upd H p (.dT kws)) := by
  have x := Ext.push (K := K) (α := α) (o := .dT kws) hp
  exact w _ _ _ x (r.push hp ⟨_, bj, rs.ext x⟩) (.ref (by rw [<- r.len]; simp))
end
end L2.FE
namespace L2
open PySem PySem.Spec PyProof.Rows
section
variable {prog : Program} {w : World} {A : Around} {R : Result -> Shared -> Prop} {s : Shared} {elt tg iter tg2 iter2 : Expr} {scope : Scope} {pos : Pos} {it acc : Value} {env : Env}
noncomputable abbrev e2 (elt tg iter tg2 iter2 : Expr) (scope : Scope) (pos : Pos) : Expr := .ListComp elt [⟨tg, iter, [], 0⟩, ⟨tg2, iter2, [], 0⟩] scope pos
end
end L2
namespace L2.FE
open PySem PySem.Spec PyProof.Rows
variable {X : Cx} {g : GG}
theorem vW {K : PySem.W.Frag} {ε : EE} {mi : MI} {ix : List Nat} {tt : TT} {te : TE} {σ : St} {H : Hp} {Q : VK} (t : Bt (tMI K g ε mi) ix tt te σ H Q) : nS (tMI K g ε mi) 1 ix (gq 0) tt te σ H Q := by
  obtain ⟨α, env, h, s, w⟩ := t
  refine ⟨α, env, h, s, w.mono fun sr h1 _ z J H' α' e hr rd acc ha => ?_⟩
  obtain ⟨W, w0, st⟩ := z J H' α' e hr rd acc ha
  refine ⟨W, w0, fun i m ys H1 hw => (st i m ys H1 hw).imp id fun ⟨a, b⟩ => ⟨a, fun σ0 x H2 hc hy => ?_⟩⟩
  obtain ⟨ts, tl, rfl⟩ := hc
  match ts, tl with
  | [t0], _ => exact ⟨⟨[some x], rfl, rfl⟩, b x H2 hy⟩
theorem gb {nl : NL} [jC nl] {elt iter : Expr} {x : Str} {px : Pos} {ifs : List Expr} {scope osc : Scope} {pos : Pos} {mi : MI} {tt : MT} {te : ME} (ix : List Nat) (N' : List Str)
    (hxe : X.xe = fun _ _ => False) (hc : X.calm = true) (ho : X.env.scope = osc) (hN : N' = x :: ix.map fun i => (X.N[i]?).getD ("" : Str)) (hnd : N'.Nodup)
    (hall : (∀ y ∈ scope.names, y.2 = .free -> osc.names.lookup y.1 = some .cell) /\ (∀ y ∈ scope.names, y.2 ≠ .cell) /\ scope.kind = .function /\ (∀ y ∈ scope.names, y.2 = .local -> scope.names.lookup y.1 = some .local) /\ scope.names.lookup x = some .local /\ (∀ y ∈ N'.tail, scope.names.lookup y = some .free))
    (hi : PI X (.Name x px) iter (tMI X.K g E00 mi))
    (ht : ∀ cl C aM aU fp, PTs (cp X scope cl C aM aU fp N') ifs (tMT X.K g E00 tt))
    (he : ∀ cl C aM aU fp, PE (cp X scope cl C aM aU fp N') elt (tM X.K g E00 te))
    (hs : ∀ x, foldedSetIterable iter X.env x = pure x := by intro _; rfl) :
    PE X (.ListComp elt [⟨.Name x px, iter, ifs, 0⟩] scope pos) (tM X.K g E00 (cW nl mi ix tt te)) := by
  refine PE.imp (PE.frz (tJ (tgr := gq 0) ix [x] N' hxe hc ho hN hnd ⟨hall.1, hall.2.1, hall.2.2.1, hall.2.2.2.1, fun y hy => hall.2.2.2.2.2 y (by rw [hN] at hy ⊢; exact hy)⟩ hi (fun cl C aM aU fp => cy (X := cp X scope cl C aM aU fp N') hnd (show N'[0]? = some x by rw [hN]; rfl) (.inl (lookup_relabel_local hall.2.2.2.2.1)) (.inr (lookup_relabel_local hall.2.2.2.2.1))) ht he hs)) fun σ H Q t => ?_
  exact vW (sI (fun _ _ z => z) t)
theorem j_ {nl : NL} [jC nl] {elt iter : Expr} {x z : Str} {px pz : Pos} {ifs : List Expr} {scope osc : Scope} {pos spos : Pos} {mi : MI} {tt : MT} {te : ME} {i : Nat} (ix : List Nat) (N' : List Str)
    (hxe : X.xe = fun _ _ => False) (hc : X.calm = true) (ho : X.env.scope = osc) (hN : N' = x :: ix.map fun i => (X.N[i]?).getD ("" : Str)) (hnd : N'.Nodup)
    (hall : (∀ y ∈ scope.names, y.2 = .free -> osc.names.lookup y.1 = some .cell) /\ (∀ y ∈ scope.names, y.2 ≠ .cell) /\ scope.kind = .function /\ (∀ y ∈ scope.names, y.2 = .local -> scope.names.lookup y.1 = some .local) /\ scope.names.lookup x = some .local /\ (∀ y ∈ N'.tail, scope.names.lookup y = some .free))
    (hi : PI X (.Name x px) iter (tMI X.K g E00 mi))
    (ht : ∀ cl C aM aU fp, PTs (cp X scope cl C aM aU fp N') ifs (tMT X.K g E00 tt))
    (he : ∀ cl C aM aU fp, PE (cp X scope cl C aM aU fp N') elt (tM X.K g E00 te))
    (hNN : X.N.Nodup) (hz : X.N[i]? = some z) (hl : X.env.scope.names.lookup z = some .local := by rfl)
    (hsw : swapsWith (.ListComp elt [⟨.Name x px, iter, ifs, 0⟩] scope pos) (some (.Name z pz)) spos.line X.env = pure true := by rfl)
    (hs : ∀ x, foldedSetIterable iter X.env x = pure x := by intro _; rfl) :
    PS X (.Assign [.Name z pz] (.ListComp elt [⟨.Name x px, iter, ifs, 0⟩] scope pos) spos) (tMS X.K g E00 (bB i (cW nl mi ix tt te))) := by
  refine PS.imp (PS.frz (sA (tgr := gq 0) ix [x] N' hxe hc ho hN hnd ⟨hall.1, hall.2.1, hall.2.2.1, hall.2.2.2.1, fun y hy => hall.2.2.2.2.2 y (by rw [hN] at hy ⊢; exact hy)⟩ hi (fun cl C aM aU fp => cy (X := cp X scope cl C aM aU fp N') hnd (show N'[0]? = some x by rw [hN]; rfl) (.inl (lookup_relabel_local hall.2.2.2.2.1)) (.inr (lookup_relabel_local hall.2.2.2.2.1))) ht he hNN hz hl hsw hs)) fun E σ H ⟨α, env, h, s, w⟩ => vW (sI (nl := nl) (Q := fun v H1 => E.nx (σ.set i (some v)) H1) (fun v H1 z => Bf z) (tM.use s w.bind fun d1 h1 v1 H1 α1 e1 s1 r1 w1 => (show cU X.K g α H E (.nx (env.set i (some d1))) h1 from w1) H1 α1 e1 s1.heap _ (s1.vs.set r1)))
end L2.FE
namespace FC
open PySem L2 L2.FE
noncomputable def b_ : MF := c_ 2 (aG (dQ (aC asB (ar dLt (ag 1) (ai ck (aa (ag 0) ak)))) (bH (ar dIx (ag 0) (ag 1))) bU)
    (bH (cC (.int 0))))
noncomputable def cH : MF := c_ 2 (aG (bB 1 (ai xP (aa (ag 0) (aa (ar eT (cC (.int 0)) (ag 0)) ak))))
    (bH (ai (lP tZ) (aa (ag 1) (aa (ai xF (aa (ar dGe (ag 1) (ar zZ (cC (.int 10)) (cC (.int 18)))) ak)) (aa (ar sY (ag 1) (cC (.int 1000003))) ak))))))
noncomputable def eQ : MF := c_ 1 (aG (bB 0 (ar sY (ar (dG bh) (ag 0) (cC (.int 7919))) (cC (.int 2147483647))))
    (bH (ar sY (ar (dG bh) (ar (dG bh) (ar (sW bh) (ag 0) (ag 0)) (ar (sW bh) (cC (.int 48271)) (ag 0))) (cC (.int 12345))) (cC (.int 2147483629)))))
noncomputable def aD : MF := c_ 3 (aG (dQ (jU (aC asB (ar dEq (ar dIx (ag 0) (cC (.int 1))) (cC (.int 1)))) (aC asB (ar dGt (ar dIx (ag 0) (cC (.int 0))) (cC (.int 0))))) (aG (bB 2 (ar sY (ar dIx (ag 0) (cC (.int 0))) (ag 1)))
    (aG (qP ie (ag 0) (cC (.int 0)) (ar yg (ar dIx (ag 0) (cC (.int 0))) (ag 1)))
    (bH (ag 2)))) bU)
    (aG (qP ie (ag 0) (cC (.int 2)) (ai eQ (aa (ar (dG bh) (ai eQ (aa (ar dIx (ag 0) (cC (.int 2))) ak)) (cC (.int 7))) ak)))
    (bH (ar sY (ar yg (ar dIx (ag 0) (cC (.int 2))) (cC (.int 64))) (ag 1)))))
noncomputable def cG : MF := fun ds h => ((c_ 3 (aG (bB 2 (ai (lH tZ) (aa (ag 1) ak)))
    (bH (ai ka (aa (cW bh (iQ jo (aa (ag 1) ak)) [2, 0] tt1 (jk tT (ag 1) (aa (ai aD (aa (ag 2) (aa (ai ck (aa (ag 1) ak)) ak))) ak))) ak))))) ds h).bind (eZ h)
noncomputable def gp : MF := c_ 1 (bH (vx (cUn (qS "int") (ag 0)) (yC (cUn (qS "bool") (ag 0)))))
noncomputable def bS : MF := c_ 3 (bH (vx (ai gp (aa (ag 0) ak)) (jX dLe dLe (ag 1) (ag 0) (ag 2))))
noncomputable def bG : MF := c_ 3 (dQ (iL (aC mN (ai bS (aa (ag 0) (aa (ag 1) (aa (ag 2) ak)))))) Ag bU)
noncomputable def bc : MF := c_ 2 (aG (fI (ai bG (aa (ag 0) (aa (cC (.int 1)) (aa (cC (.int 12)) ak)))))
    (fI (ai bG (aa (ag 1) (aa (cC (.int 0)) (aa (cC (.int 12)) ak))))))
noncomputable def cM : MF := fun ds h => ((c_ 3 (aG (dQ (t8 (iL (aC mN (cUn (qS "tuple") (ag 1)))) (aC asB (ar dGt (ai ck (aa (ag 1) ak)) (ag 0)))) (bH (cC (.bl false))) bU)
    (aG (fY (fH (ag 1)) (gN 2) (dQ (iL (aC mN (ai bS (aa (ag 2) (aa (cC (.int 0)) (aa (ar eT (ag 0) (cC (.int 1))) ak)))))) (bH (cC (.bl false))) bU))
    (bH (ar dEq (ai ck (aa (ai uA (aa (ag 1) ak)) ak)) (ai ck (aa (ag 1) ak))))))) ds h).bind (eZ h)
noncomputable def bz : MF := c_ 2 (dQ (iL (aC mN (ai cM (aa (ag 0) (aa (ag 1) ak))))) Ag bU)
noncomputable def dU : MF := c_ 1 (aG (dQ (aC asB (ar dEq (ai ck (aa (ag 0) ak)) (cC (.int 0)))) (bH (cC (.int 0))) bU)
    (bH (ar eT (ar dIx (ag 0) (cUn lT (cC (.int 1)))) (ai ck (aa (cW bh (fH (ag 0)) [0] (aC asB (ar dLt (ag 0) (ar dIx (ag 1) (cUn lT (cC (.int 1)))))) (ag 0)) ak)))))
noncomputable def cb : MF := c_ 1 (bH (ai ka (aa (cW bh (iQ jo (aa (ar eT (ai ck (aa (ag 0) ak)) (cC (.int 1))) ak)) [0] (aC asB (ar dGt (ar dIx (ag 1) (ag 0)) (ar dIx (ag 1) (ar (dG bh) (ag 0) (cC (.int 1)))))) (ag 0)) ak)))
noncomputable def aP : MF := c_ 5 (aG (bB 3 (ar dIx (ar dIx (ag 0) (ar eT (ar eT (ai ck (aa (ag 0) ak)) (cC (.int 1))) (ai ck (aa (ag 2) ak)))) (ai dU (aa (ag 2) ak))))
    (aG (bB 4 (ar eT (ag 1) (ai ck (aa (ai cb (aa (ag 2) ak)) ak))))
    (bH (cIf (aC asB (jX dLe dLt (cC (.int 0)) (ag 4) (ai ck (aa (ag 3) ak)))) (ar dIx (ag 3) (ag 4)) (cC (.int 0))))))
noncomputable def cI : MF := fun ds h => ((c_ 8 (aG (bB 2 (ar (sW tZ) (ai (lP bh) (aa (cC (.int 0)) ak)) (ar (dG bh) (ai ck (aa (ag 0) ak)) (cC (.int 1)))))
    (aG (fY (lE (ag 0)) (gT2 3 4) (aG (bB 5 (cIf (aC asB (ar dLt (ag 3) (ag 1))) (cC (.int 1)) (cC (.int 0))))
    (fY (lE (ag 4)) (gT2 6 7) (q_ (ag 2) (ar (dG bh) (ag 6) (ag 5)) (ag 7)))))
    (bH (ag 2))))) ds h).bind (eZ h)
noncomputable def eN : MF := fun ds h => ((c_ 3 (aG (bB 1 (ai (lP tZ) (aa (ai (lP bh) (aa (ai (lP bh) (aa (cC (.int 1)) ak)) ak)) ak)))
    (aG (fY (iQ uZ (aa (cC (.int 1)) (aa (ar (dG bh) (ag 0) (cC (.int 1))) ak))) (gN 2) (fI (jk iG (ag 1) (aa (cW bh (iQ jo (aa (ar (dG bh) (ag 2) (cC (.int 1))) ak)) [1] tt1 (ai cI (aa (ar dIx (ag 1) (cUn lT (cC (.int 1)))) (aa (ag 0) ak)))) ak))))
    (bH (ag 1))))) ds h).bind (eZ h)
noncomputable def ba : MF := c_ 3 (aG (fI (ai bc (aa (ag 0) (aa (ag 1) ak))))
    (aG (fI (ai bz (aa (ag 0) (aa (ag 2) ak))))
    (bH (ai aP (aa (ai eN (aa (ag 0) ak)) (aa (ag 1) (aa (ag 2) ak)))))))
noncomputable def fS : Str -> Option (Nat × MF) := fun x => if x = "begun_count" then some (3, aP) else none
@[simp] theorem lj : fS "begun_count" = some (3, aP) := by kernel_rfl
noncomputable def a_ : MF := c_ 4 (aG (bB 3 (cW bh (iQ jo (aa (ag 0) ak)) [1] (aC asB (ar (dIn true) (ag 0) (ag 1))) (ar (dG bh) (ag 1) (ai hG (aa (ag 0) ak)))))
    (bH (cW bh (fH (ag 3)) [2] (aC asB (ar dGt (eX fS (ag 1) (aa (ag 0) ak)) (cC (.int 0)))) (ag 0))))
noncomputable def aV : MF := AV 3 (bB 2 (ai eN (aa (ag 0) ak))) "begun_count" [2, 1]
noncomputable def cm : MF := c_ 3 (aG (fI (ai bc (aa (ag 0) (aa (ag 1) ak))))
    (aG (fI (ai bz (aa (ag 0) (aa (ag 2) ak))))
    (bH (cW bh (fH (ai a_ (aa (ag 0) (aa (ag 2) (aa (ai aV (aa (ag 0) (aa (ag 1) ak))) ak))))) [] tt1 (ar dIx (ag 0) (cUn lT (cC (.int 1))))))))
noncomputable def bK : MF := c_ 7 (aG (bB 3 (ai hG ak))
    (aG (fY (iQ jo (aa (ag 0) ak)) (gN 4) (fY (fH (ai a_ (aa (ag 0) (aa (ag 3) (aa (ag 2) ak))))) (gN 5) (aG (bB 6 (eX fS (ag 2) (aa (ag 5) ak)))
    (aG (dQ (aC asB (ar dLt (ag 1) (ag 6))) (aG (bB 3 (ag 5))
    A2) bU)
    (wx 1 eT (ag 6))))))
    (bH (ag 3))))
noncomputable def eK : MF := c_ 4 (aG (fI (ai bc (aa (ag 0) (aa (ag 1) ak))))
    (aG (bB 3 (ai aV (aa (ag 0) (aa (ag 1) ak))))
    (aG (fI (ai bG (aa (ag 2) (aa (cC (.int 0)) (aa (ar eT (eX fS (ag 3) (aa (ai hG ak) ak)) (cC (.int 1))) ak)))))
    (bH (ai bK (aa (ag 0) (aa (ag 2) (aa (ag 3) ak))))))))
noncomputable def e8 : MF := fun ds h => ((c_ 2 (aG (dQ (t8 (iL (aC mN (cUn (qS "tuple") (ag 0)))) (iL (aC asB (jX dLe dLe (cC (.int 1)) (ai ck (aa (ag 0) ak)) (cC (.int 20)))))) (bH (cC (.bl false))) bU)
    (aG (fY (fH (ag 0)) (gN 1) (dQ (iL (aC mN (ai bS (aa (ag 1) (aa (cC (.int 0)) (aa (ar eT (ai ck (aa (ag 0) ak)) (cC (.int 1))) ak)))))) (bH (cC (.bl false))) bU))
    (bH (ar dEq (ai ck (aa (ai uA (aa (ag 0) ak)) ak)) (ai ck (aa (ag 0) ak))))))) ds h).bind (eZ h)
noncomputable def bD : MF := c_ 1 (dQ (iL (aC mN (ai e8 (aa (ag 0) ak)))) Ag bU)
noncomputable def fw : MF := c_ 1 (aG (fI (ai bD (aa (ag 0) ak)))
    (bH (ai ka (aa (cW bh (fH (ag 0)) [0] tt1 (ar eT (ar eT (ai ck (aa (ag 1) ak)) (cC (.int 1))) (ag 0))) ak))))
noncomputable def bX : MF := c_ 1 (aG (fI (ai bD (aa (ag 0) ak)))
    (dQ (aC asB (ar dGt (ai ck (aa (ag 0) ak)) (cC (.int 12)))) Ag bU))
noncomputable def cx : MF := c_ 5 (aG (bB 2 (cC (.int 0)))
    (aG (fY (iQ jo (aa (ai ck (aa (ag 0) ak)) ak)) (gN 3) (fY (fH (ai a_ (aa (ai ck (aa (ag 0) ak)) (aa (iD bh (ag 0) hJ (jn (ag 3))) (aa (ag 1) ak))))) (gN 4) (dQ (aC asB (ar dLt (ar dIx (ag 4) (cUn lT (cC (.int 1)))) (ar dIx (ag 0) (ag 3)))) (wx 2 oy (eX fS (ag 1) (aa (ag 4) ak))) bU)))
    (bH (ag 2))))
noncomputable def cV : MF := c_ 1 (aG (fI (ai bX (aa (ag 0) ak)))
    (bH (ai cx (aa (ag 0) (aa (ai aV (aa (ai ck (aa (ag 0) ak)) (aa (ai ck (aa (ai cb (aa (ag 0) ak)) ak)) ak))) ak)))))
noncomputable def iu : MF := c_ 1 (aG (fI (ai bD (aa (ag 0) ak)))
    (bH (ai cb (aa (ag 0) ak))))
noncomputable def cD : MF := c_ 1 (bH (ai ck (aa (ai iu (aa (ag 0) ak)) ak)))
noncomputable def cZ : MF := c_ 3 (aG (fI (ai bX (aa (ag 0) ak)))
    (aG (bB 1 (ai aV (aa (ai ck (aa (ag 0) ak)) (aa (ai ck (aa (ai cb (aa (ag 0) ak)) ak)) ak))))
    (aG (bB 2 (ar (dG bh) (ai cx (aa (ag 0) (aa (ag 1) ak))) (cC (.int 1))))
    (aG (dQ (aC asB (ar dEq (ag 2) (eX fS (ag 1) (aa (ai hG ak) ak)))) (bH (cC .non)) bU)
    (bH (ai bK (aa (ai ck (aa (ag 0) ak)) (aa (ag 2) (aa (ag 1) ak)))))))))
noncomputable def oF : MF := fun ds h => ((c_ 14 (aG (fY (fH (ar (dG bh) (ai (lP bh) (aa (ai b_ (aa (ag 0) (aa (cC (.int 0)) ak))) ak)) (iD bh (ag 0) (jn (cC (.int 1))) (jn (cC (.int 2)))))) (gN 1) (aG (bB 2 (ai cH (aa (ag 1) ak)))
    (aG (bB 3 (ar (dG bh) (cC (.int 1)) (ai aD (aa (ag 2) (aa (cC (.int 10)) ak)))))
    (aG (xq 4 5 (ai hG (aa (ai aD (aa (ag 2) (aa (ag 3) ak))) (aa (ai aD (aa (ag 2) (aa (ag 3) ak))) ak))))
    (aG (bB 6 (iD bh (ai cG (aa (ag 2) (aa (ag 3) ak))) hJ (jn (ag 4))))
    (aG (bB 7 (cW bh (iQ jo (aa (ag 3) ak)) [6] (aC asB (ar (dIn true) (ag 0) (ag 1))) (ag 0)))
    (aG (bB 8 (cW bh (fH (ag 7)) [3, 5, 6] tt1 (ai ba (aa (ag 1) (aa (ag 2) (aa (ar (dG bh) (ag 3) (ai hG (aa (ag 0) ak))) ak))))))
    (aG (dQ (aC asB (ar dNe (ai rg (aa (ag 8) ak)) (ai ba (aa (ag 3) (aa (ag 5) (aa (ag 6) ak)))))) (bH (cC (.bl false))) bU)
    (aG (dQ (aC asB (ar dNe (ai cm (aa (ag 3) (aa (ag 5) (aa (ag 6) ak)))) (cW bh (sL (aa (ag 7) (aa (ag 8) ak))) [] (unp (aC asB (ar dGt (ag 1) (cC (.int 0))))) (unp (ag 0))))) (bH (cC (.bl false))) bU)
    (aG (bB 9 (ai ba (aa (ag 3) (aa (ag 5) (aa (ai hG ak) ak)))))
    (aG (bB 10 (ai aD (aa (ag 2) (aa (ag 9) ak))))
    (aG (bB 11 (ai eK (aa (ag 3) (aa (ag 5) (aa (ag 10) ak)))))
    (aG (bB 12 (ar (dG bh) (ag 10) (cC (.int 4))))
    (aG (oB 64 (jU (aC asB (ar (mG true) (ag 11) (cC .non))) (aC asB (ar dLt (ag 10) (ag 12)))) (aG (bB 13 (ai fw (aa (ag 11) ak)))
    (aG (dQ (t8 (aC asB (ar dNe (ai cV (aa (ag 11) ak)) (ag 10))) (t8 (aC asB (ar dNe (ai cD (aa (ag 11) ak)) (ag 5))) (aC asB (ar dNe (ai cD (aa (ag 13) ak)) (ar eT (ar eT (ag 3) (cC (.int 1))) (ag 5)))))) (bH (cC (.bl false))) bU)
    (aG (dQ (aC asB (ar dNe (ai cV (aa (ag 13) ak)) (ar eT (ar eT (ag 9) (cC (.int 1))) (ag 10)))) (bH (cC (.bl false))) bU)
    (aG (bB 11 (ai cZ (aa (ag 11) ak)))
    (bB 10 (ar (dG bh) (ag 10) (cC (.int 1)))))))))
    (dQ (jU (aC asB (ar (mG false) (ag 11) (cC .non))) (aC asB (ar dNe (ag 10) (ag 9)))) (bH (cC (.bl false))) bU)))))))))))))))
    (bH (cC (.bl true))))) ds h).bind (eZ h)
noncomputable def aE (i : Nat) : Stmt := PySem.Challenge.pw_fallcounts_k25_whole_numbers_of_orders.main.body.getD i (.Pass ⟨0, 0, 0, 0⟩)
structure Blt (mg : Str -> Option Value) : Prop where
  bool : mg "bool" = none
  enumerate : mg "enumerate" = none
  int : mg "int" = none
  isinstance : mg "isinstance" = none
  len : mg "len" = none
  list : mg "list" = none
  max : mg "max" = none
  range : mg "range" = none
  set : mg "set" = none
  sum : mg "sum" = none
  tuple : mg "tuple" = none
  zip : mg "zip" = none
section
variable {P : Program} {w : World} {K : PySem.W.Frag} {mg : Str -> Option Value} {base : Heap} {g : GG}
theorem mz : aL ["_law_script", "_law_k"] ["_law_script", "_law_k"] (ao (aE 38)) := ⟨rfl, rfl, rfl, by decide +kernel, rfl, by decide +kernel, by decide +kernel⟩
theorem lR (D : aI K mg "_law_cell_at" (aE 38)) (T : Blt mg) : Has P w K mg base g "_law_cell_at" 1 ["_law_script", "_law_k"] b_ := by
  obtain ⟨f, fd, hm, F⟩ := D
  refine ⟨f, fd, eL F mz (fun cdv A outer s H E hr => ?_), F.kp, F.binds (fun _ _ _ _ _ _ us hl => qy hl fun _ _ => rfl), hm, aN F⟩
  exact (@au _ _ _ _ _ _ _ (@iI _ _ _ _ _ _ _ _ _ _ (@bQ _ _ _ _ _ _ _ _ _ _ _ nW nh (ae 1) (aO bI bN rfl T.len PySem.boot_len (@af _ _ _ _ _ _ _ (ae 0) aj rfl)) (bM _)) (@az _ _ _ _ _ (@bC _ _ _ _ _ _ (@fj _ _ _ _ _ _ _ _ _ _ dB fh (ae 0) (ae 1) (fun _ _ => rfl)))) bY)
      (@az _ _ _ _ _ (@bC _ _ _ _ _ _ ax)))
theorem iX : aL ["_law_cell", "_law_left"] ["_law_cell"] (ao (aE 40)) := ⟨rfl, rfl, rfl, by decide +kernel, rfl, by decide +kernel, by decide +kernel⟩
theorem mD (D : aI K mg "_law_pen_of" (aE 40)) (T : Blt mg) : Has P w K mg base g "_law_pen_of" 1 ["_law_cell"] cH := by
  obtain ⟨f, fd, hm, F⟩ := D
  refine ⟨f, fd, eL F iX (fun cdv A outer s H E hr => ?_), F.kp, F.binds (fun _ _ _ _ _ _ us hl => kh hl fun _ => rfl), hm, aN F⟩
  exact (@au _ _ _ _ _ _ _ (@cR _ _ _ _ _ _ 1 _ _ iX.nd rfl (by first | exact Or.inl rfl | exact Or.inr rfl) (aO (wF rfl) Ae rfl T.max PyProof.Rows.boot_max (@af _ _ _ _ _ _ _ (ae 0) (@af _ _ _ _ _ _ _ (@aQ _ _ _ _ _ _ _ _ _ _ _ eO eH ax (ae 0)) aj rfl) rfl)) rfl (.inl rfl))
      (@az _ _ _ _ _ (@bC _ _ _ _ _ _ (@lu _ _ _ _ _ _ _ _ (@af _ _ _ _ _ _ _ (ae 1) (@af _ _ _ _ _ _ _ (fU wb Cm rfl T.int PyProof.Rows.boot_int (@af _ _ _ _ _ _ _ (@uS _ _ _ _ _ _ _ _ _ _ _ Ei Ey (ae 1) (@aQ _ _ _ _ _ _ _ _ _ _ _ zV CV ax ax) (bM _)) aj rfl)) (@af _ _ _ _ _ _ _ (@aQ _ _ _ _ _ _ _ _ _ _ _ nc n4 (ae 1) ax) aj rfl) rfl) rfl)))))
theorem kK : aL ["_law_seed"] ["_law_seed"] (ao (aE 39)) := ⟨rfl, rfl, rfl, by decide +kernel, rfl, by decide +kernel, by decide +kernel⟩
theorem pH (D : aI K mg "_law_next" (aE 39)) (T : Blt mg) : Has P w K mg base g "_law_next" 1 ["_law_seed"] eQ := by
  obtain ⟨f, fd, hm, F⟩ := D
  refine ⟨f, fd, eL F kK (fun cdv A outer s H E hr => ?_), F.kp, F.binds (fun _ _ _ _ _ _ us hl => kh hl fun _ => rfl), hm, aN F⟩
  exact (@au _ _ _ _ _ _ _ (@cR _ _ _ _ _ _ 0 _ _ kK.nd rfl (by first | exact Or.inl rfl | exact Or.inr rfl) (@aQ _ _ _ _ _ _ _ _ _ _ _ nc n4 (@aQ _ _ _ _ _ _ _ _ _ _ _ dY dZ (ae 0) ax) ax) rfl (.inl rfl))
      (@az _ _ _ _ _ (@bC _ _ _ _ _ _ (@aQ _ _ _ _ _ _ _ _ _ _ _ nc n4 (@aQ _ _ _ _ _ _ _ _ _ _ _ dY dZ (@aQ _ _ _ _ _ _ _ _ _ _ _ dY dZ (@aQ _ _ _ _ _ _ _ _ _ _ _ u9 uw (ae 0) (ae 0)) (@aQ _ _ _ _ _ _ _ _ _ _ _ u9 uw ax (ae 0))) ax) ax))))
theorem kF : aL ["_law_pen", "_law_many", "_law_found"] ["_law_pen", "_law_many"] (ao (aE 41)) := ⟨rfl, rfl, rfl, by decide +kernel, rfl, by decide +kernel, by decide +kernel⟩
theorem pI (D : aI K mg "_law_draw" (aE 41)) (T : Blt mg) (gK : Has P w K mg base g "_law_next" 1 ["_law_seed"] eQ) : Has P w K mg base g "_law_draw" 2 ["_law_pen", "_law_many"] aD := by
  obtain ⟨f, fd, hm, F⟩ := D
  obtain ⟨zC, xX, jK, jG, jR, jM, _⟩ := gK
  refine ⟨f, fd, eL F kF (fun cdv A outer s H E hr => ?_), F.kp, F.binds (fun _ _ _ _ _ _ us hl => qy hl fun _ _ => rfl), hm, aN F⟩
  exact (@au _ _ _ _ _ _ _ (@iI _ _ _ _ _ _ _ _ _ _ (PW.pt (@uT _ _ _ _ _ _ _ _ _ (@bQ _ _ _ _ _ _ _ _ _ _ _ (oR hr.units) tE (@fj _ _ _ _ _ _ _ _ _ _ dB fh (ae 0) ax (fun _ _ => rfl)) ax (bM _)) (@rQ _ _ _ _ _ _ (@bQ _ _ _ _ _ _ _ _ _ _ _ qm pO (@fj _ _ _ _ _ _ _ _ _ _ dB fh (ae 0) ax (fun _ _ => rfl)) ax (bM _))))) (@au _ _ _ _ _ _ _ (@cR _ _ _ _ _ _ 2 _ _ kF.nd rfl (by first | exact Or.inl rfl | exact Or.inr rfl) (@aQ _ _ _ _ _ _ _ _ _ _ _ nc n4 (@fj _ _ _ _ _ _ _ _ _ _ dB fh (ae 0) ax (fun _ _ => rfl)) (ae 1)) rfl (.inl rfl))
      (@au _ _ _ _ _ _ _ (vA (@aQ _ _ _ _ _ _ _ _ _ _ _ sH yY (@fj _ _ _ _ _ _ _ _ _ _ dB fh (ae 0) ax (fun _ _ => rfl)) (ae 1)) (ae 0) ax set_list nQ)
      (@az _ _ _ _ _ (@bC _ _ _ _ _ _ (ae 2))))) bY)
      (@au _ _ _ _ _ _ _ (vA (aw (jK.mono (by decide)) hr rfl jM jG jR (@af _ _ _ _ _ _ _ (@aQ _ _ _ _ _ _ _ _ _ _ _ dY dZ (aw (jK.mono (by decide)) hr rfl jM jG jR (@af _ _ _ _ _ _ _ (@fj _ _ _ _ _ _ _ _ _ _ dB fh (ae 0) ax (fun _ _ => rfl)) aj rfl) (ah aq)) ax) aj rfl) (ah aq)) (ae 0) ax set_list nQ)
      (@az _ _ _ _ _ (@bC _ _ _ _ _ _ (@aQ _ _ _ _ _ _ _ _ _ _ _ nc n4 (@aQ _ _ _ _ _ _ _ _ _ _ _ sH yY (@fj _ _ _ _ _ _ _ _ _ _ dB fh (ae 0) ax (fun _ _ => rfl)) ax) (ae 1))))))
theorem jS : aL ["_law_pen", "_law_n", "_law_left"] ["_law_pen", "_law_n"] (ao (aE 42)) := ⟨rfl, rfl, rfl, by decide +kernel, rfl, by decide +kernel, by decide +kernel⟩
theorem nU (D : aI K mg "_law_order" (aE 42)) (T : Blt mg) (dz : Has P w K mg base g "_law_draw" 2 ["_law_pen", "_law_many"] aD) : Has P w K mg base g "_law_order" 3 ["_law_pen", "_law_n"] cG := by
  obtain ⟨f, fd, hm, F⟩ := D
  obtain ⟨pq, nj, dA, dy, dw, dv, _⟩ := dz
  refine ⟨f, fd, jv (eL F jS (fun cdv A outer s H E hr => ?_)), F.kp, F.binds (fun _ _ _ _ _ _ us hl => qy hl fun _ _ => rfl), hm, aN F⟩
  exact (@au _ _ _ _ _ _ _ (@cR _ _ _ _ _ _ 2 _ _ jS.nd rfl (by first | exact Or.inl rfl | exact Or.inr rfl) (xS rfl rfl T.list rfl T.range (@af _ _ _ _ _ _ _ (ae 1) aj rfl)) rfl (.inl rfl))
      (@az _ _ _ _ _ (@bC _ _ _ _ _ _ (fU gQ oE rfl T.tuple PyProof.Rows.boot_tuple (@af _ _ _ _ _ _ _ (gb (osc := ao (aE 42)) [2, 0] ["_law_place", "_law_left", "_law_pen"] rfl rfl rfl rfl (by decide +kernel) ⟨by decide +kernel, by decide +kernel, rfl, by decide +kernel, rfl, by decide +kernel⟩ (iA rfl T.range (@af _ _ _ _ _ _ _ (ae 1) aj rfl))
        (fun cl C aM aU fp => oP) (fun cl C aM aU fp => (ya PySem.F.slot_list_pop PySem.F.type_list_pop zi CI (ae 1) (@af _ _ _ _ _ _ _ (aw (dA.mono (by decide)) hr rfl dv dy dw (@af _ _ _ _ _ _ _ (ae 2) (@af _ _ _ _ _ _ _ (aO bI bN rfl T.len PySem.boot_len (@af _ _ _ _ _ _ _ (ae 1) aj rfl)) aj rfl) rfl) (ah (ah aq))) aj rfl)))) aj rfl)))))
theorem sF : aL ["thing"] ["thing"] (ao (aE 7)) := ⟨rfl, rfl, rfl, by decide +kernel, rfl, by decide +kernel, by decide +kernel⟩
theorem rY (D : aI K mg "is_whole" (aE 7)) (T : Blt mg) : Has P w K mg base g "is_whole" 1 ["thing"] gp := by
  obtain ⟨f, fd, hm, F⟩ := D
  refine ⟨f, fd, eL F sF (fun cdv A outer s H E hr => ?_), F.kp, F.binds (fun _ _ _ _ _ _ us hl => kh hl fun _ => rfl), hm, aN F⟩
  exact (@az _ _ _ _ _ (@bC _ _ _ _ _ _ (@y_ _ _ _ _ _ _ _ _ _ (rl (ae 0) rfl T.isinstance rfl T.int PyProof.Rows.boot_int) (@yx _ _ _ _ _ _ _ (@B6 _ _ _ _ _ _ (rl (ae 0) rfl T.isinstance rfl T.bool PyProof.Rows.boot_bool))))))
theorem rB : aL ["thing", "least", "most"] ["thing", "least", "most"] (ao (aE 8)) := ⟨rfl, rfl, rfl, by decide +kernel, rfl, by decide +kernel, by decide +kernel⟩
theorem pd (D : aI K mg "is_within" (aE 8)) (T : Blt mg) (iB : Has P w K mg base g "is_whole" 1 ["thing"] gp) : Has P w K mg base g "is_within" 2 ["thing", "least", "most"] bS := by
  obtain ⟨f, fd, hm, F⟩ := D
  obtain ⟨zP, zD, qR, qG, qV, qJ, _⟩ := iB
  refine ⟨f, fd, eL F rB (fun cdv A outer s H E hr => ?_), F.kp, F.binds (fun _ _ _ _ _ _ us hl => tW hl fun _ _ _ => rfl), hm, aN F⟩
  exact (@az _ _ _ _ _ (@bC _ _ _ _ _ _ (@y_ _ _ _ _ _ _ _ _ _ (aw (qR.mono (by decide)) hr rfl qJ qG qV (@af _ _ _ _ _ _ _ (ae 0) aj rfl) (ah aq)) (@yx _ _ _ _ _ _ _ (xY sR sR t6 t6 (ae 1) (ae 0) (ae 2))))))
theorem lq : aL ["thing", "least", "most"] ["thing", "least", "most"] (ao (aE 9)) := ⟨rfl, rfl, rfl, by decide +kernel, rfl, by decide +kernel, by decide +kernel⟩
theorem kT (D : aI K mg "number_needed" (aE 9)) (T : Blt mg) (bP : Has P w K mg base g "is_within" 2 ["thing", "least", "most"] bS) : Has P w K mg base g "number_needed" 3 ["thing", "least", "most"] bG := by
  obtain ⟨f, fd, hm, F⟩ := D
  obtain ⟨jV, js, eh, ed, d_, eA, _⟩ := bP
  refine ⟨f, fd, eL F lq (fun cdv A outer s H E hr => ?_), F.kp, F.binds (fun _ _ _ _ _ _ us hl => tW hl fun _ _ _ => rfl), hm, aN F⟩
  exact (@az _ _ _ _ _ (@iI _ _ _ _ _ _ _ _ _ _ (@i8 _ _ _ _ _ _ (@gx _ _ _ _ _ _ j4 (aw (eh.mono (by decide)) hr rfl eA ed d_ (@af _ _ _ _ _ _ _ (ae 0) (@af _ _ _ _ _ _ _ (ae 1) (@af _ _ _ _ _ _ _ (ae 2) aj rfl) rfl) rfl) (ah (ah (ah aq)))) (fun _ => rfl))) (@az _ _ _ _ _ (PS.imp kD fun E σ H ⟨α, env, h, s, w⟩ => w.elim)) bY))
theorem kR : aL ["n", "k"] ["n", "k"] (ao (aE 25)) := ⟨rfl, rfl, rfl, by decide +kernel, rfl, by decide +kernel, by decide +kernel⟩
theorem kr (D : aI K mg "numbers_needed" (aE 25)) (T : Blt mg) {fD : Tok} (cJ : mg "MOST_LISTED" = some (.int 12 fD)) (bV : Has P w K mg base g "number_needed" 3 ["thing", "least", "most"] bG) : Has P w K mg base g "numbers_needed" 4 ["n", "k"] bc := by
  obtain ⟨f, fd, hm, F⟩ := D
  obtain ⟨k6, ku, dF, dE, dD, dC, _⟩ := bV
  refine ⟨f, fd, eL F kR (fun cdv A outer s H E hr => ?_), F.kp, F.binds (fun _ _ _ _ _ _ us hl => qy hl fun _ _ => rfl), hm, aN F⟩
  exact (@au _ _ _ _ _ _ _ (e9 (aw (dF.mono (by decide)) hr rfl dC dE dD (@af _ _ _ _ _ _ _ (ae 0) (@af _ _ _ _ _ _ _ ax (@af _ _ _ _ _ _ _ (kO rfl cJ) aj rfl) rfl) rfl) (ah (ah (ah aq)))))
      (@az _ _ _ _ _ (e9 (aw (dF.mono (by decide)) hr rfl dC dE dD (@af _ _ _ _ _ _ _ (ae 1) (@af _ _ _ _ _ _ _ ax (@af _ _ _ _ _ _ _ (kO rfl cJ) aj rfl) rfl) rfl) (ah (ah (ah aq)))))))
theorem gD : aL ["n", "thing", "number"] ["n", "thing"] (ao (aE 27)) := ⟨rfl, rfl, rfl, by decide +kernel, rfl, by decide +kernel, by decide +kernel⟩
theorem kx (D : aI K mg "beginning_good" (aE 27)) (T : Blt mg) (bP : Has P w K mg base g "is_within" 2 ["thing", "least", "most"] bS) : Has P w K mg base g "beginning_good" 3 ["n", "thing"] cM := by
  obtain ⟨f, fd, hm, F⟩ := D
  obtain ⟨jV, js, eh, ed, d_, eA, _⟩ := bP
  refine ⟨f, fd, jv (eL F gD (fun cdv A outer s H E hr => ?_)), F.kp, F.binds (fun _ _ _ _ _ _ us hl => qy hl fun _ _ => rfl), hm, aN F⟩
  exact (@au _ _ _ _ _ _ _ (@iI _ _ _ _ _ _ _ _ _ _ (PW.pt (@vh _ _ _ _ _ _ _ _ _ (@i8 _ _ _ _ _ _ (@gx _ _ _ _ _ _ j4 (rl (ae 1) rfl T.isinstance rfl T.tuple PyProof.Rows.boot_tuple) (fun _ => rfl))) (@ug _ _ _ _ _ _ (@bQ _ _ _ _ _ _ _ _ _ _ _ qm pO (aO bI bN rfl T.len PySem.boot_len (@af _ _ _ _ _ _ _ (ae 1) aj rfl)) (ae 0) (bM _))))) (@az _ _ _ _ _ (@bC _ _ _ _ _ _ jT)) bY)
      (@au _ _ _ _ _ _ _ (jL PassesOwn.never rfl (@gU _ _ _ _ _ _ (ae 1)) (cy (i := 2) gD.nd rfl (by first | exact Or.inl rfl | exact Or.inr rfl)) gC (@az _ _ _ _ _ (@iI _ _ _ _ _ _ _ _ _ _ (@i8 _ _ _ _ _ _ (@gx _ _ _ _ _ _ j4 (aw (eh.mono (by decide)) hr rfl eA ed d_ (@af _ _ _ _ _ _ _ (ae 2) (@af _ _ _ _ _ _ _ ax (@af _ _ _ _ _ _ _ (@aQ _ _ _ _ _ _ _ _ _ _ _ eO eH (ae 0) ax) aj rfl) rfl) rfl) (ah (ah (ah aq)))) (fun _ => rfl))) (@az _ _ _ _ _ (@bC _ _ _ _ _ _ jT)) bY)))
      (@az _ _ _ _ _ (@bC _ _ _ _ _ _ (@uS _ _ _ _ _ _ _ _ _ _ _ (oR hr.units) tE (aO bI bN rfl T.len PySem.boot_len (@af _ _ _ _ _ _ _ (fU (kE rfl) zl rfl T.set PyProof.Rows.boot_set (@af _ _ _ _ _ _ _ (ae 1) aj rfl)) aj rfl)) (aO bI bN rfl T.len PySem.boot_len (@af _ _ _ _ _ _ _ (ae 1) aj rfl)) (bM _))))))
theorem jA : aL ["n", "thing"] ["n", "thing"] (ao (aE 28)) := ⟨rfl, rfl, rfl, by decide +kernel, rfl, by decide +kernel, by decide +kernel⟩
theorem jj (D : aI K mg "beginning_needed" (aE 28)) (T : Blt mg) (eF : Has P w K mg base g "beginning_good" 3 ["n", "thing"] cM) : Has P w K mg base g "beginning_needed" 4 ["n", "thing"] bz := by
  obtain ⟨f, fd, hm, F⟩ := D
  obtain ⟨u6, uc, kv, kq, jY, j3, _⟩ := eF
  refine ⟨f, fd, eL F jA (fun cdv A outer s H E hr => ?_), F.kp, F.binds (fun _ _ _ _ _ _ us hl => qy hl fun _ _ => rfl), hm, aN F⟩
  exact (@az _ _ _ _ _ (@iI _ _ _ _ _ _ _ _ _ _ (@i8 _ _ _ _ _ _ (@gx _ _ _ _ _ _ j4 (aw (kv.mono (by decide)) hr rfl j3 kq jY (@af _ _ _ _ _ _ _ (ae 0) (@af _ _ _ _ _ _ _ (ae 1) aj rfl) rfl) (ah (ah aq))) (fun _ => rfl))) (@az _ _ _ _ _ (PS.imp kD fun E σ H ⟨α, env, h, s, w⟩ => w.elim)) bY))
theorem pf : aL ["begun"] ["begun"] (ao (aE 32)) := ⟨rfl, rfl, rfl, by decide +kernel, rfl, by decide +kernel, by decide +kernel⟩
theorem oH (D : aI K mg "lower_left" (aE 32)) (T : Blt mg) : Has P w K mg base g "lower_left" 1 ["begun"] dU := by
  obtain ⟨f, fd, hm, F⟩ := D
  refine ⟨f, fd, eL F pf (fun cdv A outer s H E hr => ?_), F.kp, F.binds (fun _ _ _ _ _ _ us hl => kh hl fun _ => rfl), hm, aN F⟩
  exact (@au _ _ _ _ _ _ _ (@iI _ _ _ _ _ _ _ _ _ _ (@bQ _ _ _ _ _ _ _ _ _ _ _ (oR hr.units) tE (aO bI bN rfl T.len PySem.boot_len (@af _ _ _ _ _ _ _ (ae 0) aj rfl)) ax (bM _)) (@az _ _ _ _ _ (@bC _ _ _ _ _ _ ax)) bY)
      (@az _ _ _ _ _ (@bC _ _ _ _ _ _ (@aQ _ _ _ _ _ _ _ _ _ _ _ eO eH (@fj _ _ _ _ _ _ _ _ _ _ dB fh (ae 0) (@tS _ _ _ _ _ _ _ _ _ oz oq ax) (fun _ _ => rfl)) (aO bI bN rfl T.len PySem.boot_len (@af _ _ _ _ _ _ _ (gb (osc := ao (aE 32)) [0] ["number", "begun"] rfl rfl rfl rfl (by decide +kernel) ⟨by decide +kernel, by decide +kernel, rfl, by decide +kernel, rfl, by decide +kernel⟩ (@gU _ _ _ _ _ _ (ae 0))
        (fun cl C aM aU fp => (lh (@bQ _ _ _ _ _ _ _ _ _ _ _ nW nh (ae 0) (@fj _ _ _ _ _ _ _ _ _ _ dB fh (ae 1) (@tS _ _ _ _ _ _ _ _ _ oz oq ax) (fun _ _ => rfl)) (bM _)))) (fun cl C aM aU fp => (ae 0))) aj rfl))))))
theorem sk : aL ["numbers"] ["numbers"] (ao (aE 14)) := ⟨rfl, rfl, rfl, by decide +kernel, rfl, by decide +kernel, by decide +kernel⟩
theorem rW (D : aI K mg "falls_in" (aE 14)) (T : Blt mg) : Has P w K mg base g "falls_in" 1 ["numbers"] cb := by
  obtain ⟨f, fd, hm, F⟩ := D
  refine ⟨f, fd, eL F sk (fun cdv A outer s H E hr => ?_), F.kp, F.binds (fun _ _ _ _ _ _ us hl => kh hl fun _ => rfl), hm, aN F⟩
  exact (@az _ _ _ _ _ (@bC _ _ _ _ _ _ (fU gQ oE rfl T.tuple PyProof.Rows.boot_tuple (@af _ _ _ _ _ _ _ (gb (osc := ao (aE 14)) [0] ["place", "numbers"] rfl rfl rfl rfl (by decide +kernel) ⟨by decide +kernel, by decide +kernel, rfl, by decide +kernel, rfl, by decide +kernel⟩ (iA rfl T.range (@af _ _ _ _ _ _ _ (@aQ _ _ _ _ _ _ _ _ _ _ _ eO eH (aO bI bN rfl T.len PySem.boot_len (@af _ _ _ _ _ _ _ (ae 0) aj rfl)) ax) aj rfl))
        (fun cl C aM aU fp => (lh (@bQ _ _ _ _ _ _ _ _ _ _ _ qm pO (@fj _ _ _ _ _ _ _ _ _ _ dB fh (ae 1) (ae 0) (fun _ _ => rfl)) (@fj _ _ _ _ _ _ _ _ _ _ dB fh (ae 1) (@aQ _ _ _ _ _ _ _ _ _ _ _ dY dZ (ae 0) ax) (fun _ _ => rfl)) (bM _)))) (fun cl C aM aU fp => (ae 0))) aj rfl))))
theorem f7 : aL ["rests", "k", "begun", "counts", "falls"] ["rests", "k", "begun"] (ao (aE 31)) := ⟨rfl, rfl, rfl, by decide +kernel, rfl, by decide +kernel, by decide +kernel⟩
theorem mI (D : aI K mg "begun_count" (aE 31)) (T : Blt mg) (gy : Has P w K mg base g "lower_left" 1 ["begun"] dU) (br : Has P w K mg base g "falls_in" 1 ["numbers"] cb) : Has P w K mg base g "begun_count" 2 ["rests", "k", "begun"] aP := by
  obtain ⟨f, fd, hm, F⟩ := D
  obtain ⟨zr, xk, nM, nE, nu, ny, _⟩ := gy
  obtain ⟨ic, gJ, df, de, cX, cY, _⟩ := br
  refine ⟨f, fd, eL F f7 (fun cdv A outer s H E hr => ?_), F.kp, F.binds (fun _ _ _ _ _ _ us hl => tW hl fun _ _ _ => rfl), hm, aN F⟩
  exact (@au _ _ _ _ _ _ _ (@cR _ _ _ _ _ _ 3 _ _ f7.nd rfl (by first | exact Or.inl rfl | exact Or.inr rfl) (@fj _ _ _ _ _ _ _ _ _ _ dB fh (@fj _ _ _ _ _ _ _ _ _ _ dB fh (ae 0) (@aQ _ _ _ _ _ _ _ _ _ _ _ eO eH (@aQ _ _ _ _ _ _ _ _ _ _ _ eO eH (aO bI bN rfl T.len PySem.boot_len (@af _ _ _ _ _ _ _ (ae 0) aj rfl)) ax) (aO bI bN rfl T.len PySem.boot_len (@af _ _ _ _ _ _ _ (ae 2) aj rfl))) (fun _ _ => rfl)) (aw (nM.mono (by decide)) hr rfl ny nE nu (@af _ _ _ _ _ _ _ (ae 2) aj rfl) (ah aq)) (fun _ _ => rfl)) rfl (.inl rfl))
      (@au _ _ _ _ _ _ _ (@cR _ _ _ _ _ _ 4 _ _ f7.nd rfl (by first | exact Or.inl rfl | exact Or.inr rfl) (@aQ _ _ _ _ _ _ _ _ _ _ _ eO eH (ae 1) (aO bI bN rfl T.len PySem.boot_len (@af _ _ _ _ _ _ _ (aw (df.mono (by decide)) hr rfl cY de cX (@af _ _ _ _ _ _ _ (ae 2) aj rfl) (ah aq)) aj rfl))) rfl (.inl rfl))
      (@az _ _ _ _ _ (@bC _ _ _ _ _ _ (@tQ _ _ _ _ _ _ _ _ _ _ (tO sR nW t6 nh ax (ae 4) (aO bI bN rfl T.len PySem.boot_len (@af _ _ _ _ _ _ _ (ae 3) aj rfl))) (@fj _ _ _ _ _ _ _ _ _ _ dB fh (ae 3) (ae 4) (fun _ _ => rfl)) ax)))))
theorem b8 : aL ["fewer", "lower", "counts", "rank", "rest", "fall", "falls", "many"] ["fewer", "lower"] (ao (aE 30)) := ⟨rfl, rfl, rfl, by decide +kernel, rfl, by decide +kernel, by decide +kernel⟩
theorem mH (D : aI K mg "rest_counts" (aE 30)) (T : Blt mg) : Has P w K mg base g "rest_counts" 1 ["fewer", "lower"] cI := by
  obtain ⟨f, fd, hm, F⟩ := D
  refine ⟨f, fd, jv (eL F b8 (fun cdv A outer s H E hr => ?_)), F.kp, F.binds (fun _ _ _ _ _ _ us hl => qy hl fun _ _ => rfl), hm, aN F⟩
  exact (@au _ _ _ _ _ _ _ (@cR _ _ _ _ _ _ 2 _ _ b8.nd rfl (by first | exact Or.inl rfl | exact Or.inr rfl) (@aQ _ _ _ _ _ _ _ _ _ _ _ u9 uw (@lu _ _ _ _ _ _ _ _ (@af _ _ _ _ _ _ _ ax aj rfl)) (@aQ _ _ _ _ _ _ _ _ _ _ _ dY dZ (aO bI bN rfl T.len PySem.boot_len (@af _ _ _ _ _ _ _ (ae 0) aj rfl)) ax)) rfl (.inl rfl))
      (@au _ _ _ _ _ _ _ (jL PassesOwn.never rfl (vd rfl T.enumerate (ae 0)) (qB rfl (fG (cy (i := 3) b8.nd rfl (by first | exact Or.inl rfl | exact Or.inr rfl)) (fG (cy (i := 4) b8.nd rfl (by first | exact Or.inl rfl | exact Or.inr rfl)) mX))) uy (@au _ _ _ _ _ _ _ (@cR _ _ _ _ _ _ 5 _ _ b8.nd rfl (by first | exact Or.inl rfl | exact Or.inr rfl) (@tQ _ _ _ _ _ _ _ _ _ _ (@bQ _ _ _ _ _ _ _ _ _ _ _ nW nh (ae 3) (ae 1) (bM _)) ax ax) rfl (.inl rfl))
      (@az _ _ _ _ _ (jL PassesOwn.never rfl (vd rfl T.enumerate (ae 4)) (qB rfl (fG (cy (i := 6) b8.nd rfl (by first | exact Or.inl rfl | exact Or.inr rfl)) (fG (cy (i := 7) b8.nd rfl (by first | exact Or.inl rfl | exact Or.inr rfl)) mX))) uy (@az _ _ _ _ _ (zQ (ae 2) (@aQ _ _ _ _ _ _ _ _ _ _ _ dY dZ (ae 6) (ae 5)) (ae 7)))))))
      (@az _ _ _ _ _ (@bC _ _ _ _ _ _ (ae 2)))))
theorem je : aL ["n", "rests", "left"] ["n"] (ao (aE 29)) := ⟨rfl, rfl, rfl, by decide +kernel, rfl, by decide +kernel, by decide +kernel⟩
theorem qH (D : aI K mg "rests_of" (aE 29)) (T : Blt mg) (fK : Has P w K mg base g "rest_counts" 1 ["fewer", "lower"] cI) : Has P w K mg base g "rests_of" 2 ["n"] eN := by
  obtain ⟨f, fd, hm, F⟩ := D
  obtain ⟨xm, wc, mS, mE, mB, mF, _⟩ := fK
  refine ⟨f, fd, jv (eL F je (fun cdv A outer s H E hr => ?_)), F.kp, F.binds (fun _ _ _ _ _ _ us hl => kh hl fun _ => rfl), hm, aN F⟩
  exact (@au _ _ _ _ _ _ _ (@cR _ _ _ _ _ _ 1 _ _ je.nd rfl (by first | exact Or.inl rfl | exact Or.inr rfl) (@lu _ _ _ _ _ _ _ _ (@af _ _ _ _ _ _ _ (@lu _ _ _ _ _ _ _ _ (@af _ _ _ _ _ _ _ (@lu _ _ _ _ _ _ _ _ (@af _ _ _ _ _ _ _ ax aj rfl)) aj rfl)) aj rfl)) rfl (.inl rfl))
      (@au _ _ _ _ _ _ _ (jL PassesOwn.never rfl (Ba rfl T.range (@af _ _ _ _ _ _ _ ax (@af _ _ _ _ _ _ _ (@aQ _ _ _ _ _ _ _ _ _ _ _ dY dZ (ae 0) ax) aj rfl) rfl)) (cy (i := 2) je.nd rfl (by first | exact Or.inl rfl | exact Or.inr rfl)) gC (@az _ _ _ _ _ (e9 (ya PySem.F.slot_list_append PySem.F.type_list_append pU wz (ae 1) (@af _ _ _ _ _ _ _ (gb (osc := ao (aE 29)) [1] ["lower", "rests"] rfl rfl rfl rfl (by decide +kernel) ⟨by decide +kernel, by decide +kernel, rfl, by decide +kernel, rfl, by decide +kernel⟩ (iA rfl T.range (@af _ _ _ _ _ _ _ (@aQ _ _ _ _ _ _ _ _ _ _ _ dY dZ (ae 2) ax) aj rfl))
        (fun cl C aM aU fp => oP) (fun cl C aM aU fp => (aw (mS.mono (by decide)) hr rfl mF mE mB (@af _ _ _ _ _ _ _ (@fj _ _ _ _ _ _ _ _ _ _ dB fh (ae 1) (@tS _ _ _ _ _ _ _ _ _ oz oq ax) (fun _ _ => rfl)) (@af _ _ _ _ _ _ _ (ae 0) aj rfl) rfl) (ah (ah aq))))) aj rfl)))))
      (@az _ _ _ _ _ (@bC _ _ _ _ _ _ (ae 1)))))
theorem o9 : aL ["n", "k", "begun"] ["n", "k", "begun"] (ao (aE 23)) := ⟨rfl, rfl, rfl, by decide +kernel, rfl, by decide +kernel, by decide +kernel⟩
theorem nJ (D : aI K mg "begun_many" (aE 23)) (T : Blt mg) (aS : Has P w K mg base g "numbers_needed" 4 ["n", "k"] bc) (bA : Has P w K mg base g "beginning_needed" 4 ["n", "thing"] bz) (aA : Has P w K mg base g "begun_count" 2 ["rests", "k", "begun"] aP) (dR : Has P w K mg base g "rests_of" 2 ["n"] eN) : Has P w K mg base g "begun_many" 5 ["n", "k", "begun"] ba := by
  obtain ⟨f, fd, hm, F⟩ := D
  obtain ⟨gf, fO, cu, b9, cg, cf, _⟩ := aS
  obtain ⟨i6, iS, dP, dH, dM, dJ, _⟩ := bA
  obtain ⟨dg, cQ, aY, a9, a8, aX, _⟩ := aA
  obtain ⟨rX, o_, h_, hW, ia, iH, _⟩ := dR
  refine ⟨f, fd, eL F o9 (fun cdv A outer s H E hr => ?_), F.kp, F.binds (fun _ _ _ _ _ _ us hl => tW hl fun _ _ _ => rfl), hm, aN F⟩
  exact (@au _ _ _ _ _ _ _ (e9 (aw (cu.mono (by decide)) hr rfl cf b9 cg (@af _ _ _ _ _ _ _ (ae 0) (@af _ _ _ _ _ _ _ (ae 1) aj rfl) rfl) (ah (ah aq))))
      (@au _ _ _ _ _ _ _ (e9 (aw (dP.mono (by decide)) hr rfl dJ dH dM (@af _ _ _ _ _ _ _ (ae 0) (@af _ _ _ _ _ _ _ (ae 2) aj rfl) rfl) (ah (ah aq))))
      (@az _ _ _ _ _ (@bC _ _ _ _ _ _ (aw (aY.mono (by decide)) hr rfl aX a9 a8 (@af _ _ _ _ _ _ _ (aw (h_.mono (by decide)) hr rfl iH hW ia (@af _ _ _ _ _ _ _ (ae 0) aj rfl) (ah aq)) (@af _ _ _ _ _ _ _ (ae 1) (@af _ _ _ _ _ _ _ (ae 2) aj rfl) rfl) rfl) (ah (ah (ah aq))))))))
theorem ji : aL ["n", "begun", "many_with", "longer"] ["n", "begun", "many_with"] (ao (aE 34)) := ⟨rfl, rfl, rfl, by decide +kernel, rfl, by decide +kernel, by decide +kernel⟩
theorem mJ (D : aI K mg "longer_ones" (aE 34)) (T : Blt mg) (aA : Has P w K mg base g "begun_count" 2 ["rests", "k", "begun"] aP) : Has P w K mg base g "longer_ones" 4 ["n", "begun", "many_with"] a_ := by
  obtain ⟨f, fd, hm, F⟩ := D
  obtain ⟨dg, cQ, aY, a9, a8, aX, _⟩ := aA
  have TC : ∀ x np m, fS x = some (np, m) -> ∃ f fd ps, mg x = some (.ref f) /\ eS P w K mg base CX0 2 f fd ps (spM K g np m) /\ PySem.W.keepIn K (.ref f) = true /\ Binds K fd ps [] := by
    intro x np m e
    unfold fS at e
    by_cases ay : x = "begun_count"
    · rw [if_pos ay] at e; cases e; rw [ay]; exact ⟨_, _, _, aX, aY.mono (by decide), a9, a8⟩
    rw [if_neg ay] at e
    cases e
  refine ⟨f, fd, eL F ji (fun cdv A outer s H E hr => ?_), F.kp, F.binds (fun _ _ _ _ _ _ us hl => tW hl fun _ _ _ => rfl), hm, aN F⟩
  exact (@au _ _ _ _ _ _ _ (j_ (osc := ao (aE 34)) [1] ["number", "begun"] rfl rfl rfl rfl (by decide +kernel) ⟨by decide +kernel, by decide +kernel, rfl, by decide +kernel, rfl, by decide +kernel⟩ (iA rfl T.range (@af _ _ _ _ _ _ _ (ae 0) aj rfl))
        (fun cl C aM aU fp => (lh (@bQ _ _ _ _ _ _ _ _ _ _ _ kC BJ (ae 0) (ae 1) (by rfl)))) (fun cl C aM aU fp => (@aQ _ _ _ _ _ _ _ _ _ _ _ dY dZ (ae 1) (@ky _ _ _ _ _ _ _ (@af _ _ _ _ _ _ _ (ae 0) aj rfl)))) (i := 3) ji.nd rfl)
      (@az _ _ _ _ _ (@bC _ _ _ _ _ _ (gb (osc := ao (aE 34)) [2] ["one", "many_with"] rfl rfl rfl rfl (by decide +kernel) ⟨by decide +kernel, by decide +kernel, rfl, by decide +kernel, rfl, by decide +kernel⟩ (@gU _ _ _ _ _ _ (ae 3))
        (fun cl C aM aU fp => (lh (@bQ _ _ _ _ _ _ _ _ _ _ _ qm pO (jh TC hr (ae 1) (@af _ _ _ _ _ _ _ (ae 0) aj rfl) (ah aq)) ax (bM _)))) (fun cl C aM aU fp => (ae 0))))))
theorem jI : aL ["n", "k", "rests"] ["n", "k"] (ao (aE 33)) := ⟨rfl, rfl, rfl, by decide +kernel, rfl, by decide +kernel, by decide +kernel⟩
theorem nP (D : aI K mg "counter_of" (aE 33)) (T : Blt mg) (MK : Bo K mg base "counter_of" (aE 33)) (dR : Has P w K mg base g "rests_of" 2 ["n"] eN) : Has P w K mg base g "counter_of" 3 ["n", "k"] aV := by
  obtain ⟨f, fd, hm, F⟩ := D
  obtain ⟨rX, o_, h_, hW, ia, iH, _⟩ := dR
  obtain ⟨c, PT, MK⟩ := MK f fd hm F
  refine ⟨f, fd, Cg ((eB (aE 33)).take 1) "begun_count" "begun" ["rests", "k"] [2, 1] F jI MK rfl (fun _ => rfl) (by decide +kernel) (by decide +kernel) rfl ⟨⟨_, _, _, [("rests", _), ("k", _)], rfl, rfl⟩, rfl, rfl, rfl, by decide +kernel, rfl, rfl, by decide +kernel, ⟨by decide, by decide⟩, fun _ _ _ _ _ => rfl⟩ (fun cdv A outer s H E hr => ?_), F.kp, F.binds (fun _ _ _ _ _ _ us hl => qy hl fun _ _ => rfl), hm, aN F⟩
  exact (@az _ _ _ _ _ (@cR _ _ _ _ _ _ 2 _ _ jI.nd rfl (by first | exact Or.inl rfl | exact Or.inr rfl) (aw (h_.mono (by decide)) hr rfl iH hW ia (@af _ _ _ _ _ _ _ (ae 0) aj rfl) (ah aq)) rfl (.inl rfl)))
theorem mL : aL ["n", "k", "begun"] ["n", "k", "begun"] (ao (aE 24)) := ⟨rfl, rfl, rfl, by decide +kernel, rfl, by decide +kernel, by decide +kernel⟩
theorem lQ (D : aI K mg "next_numbers" (aE 24)) (T : Blt mg) (aS : Has P w K mg base g "numbers_needed" 4 ["n", "k"] bc) (bA : Has P w K mg base g "beginning_needed" 4 ["n", "thing"] bz) (bu : Has P w K mg base g "longer_ones" 4 ["n", "begun", "many_with"] a_) (aZ : Has P w K mg base g "counter_of" 3 ["n", "k"] aV) : Has P w K mg base g "next_numbers" 5 ["n", "k", "begun"] cm := by
  obtain ⟨f, fd, hm, F⟩ := D
  obtain ⟨gf, fO, cu, b9, cg, cf, _⟩ := aS
  obtain ⟨i6, iS, dP, dH, dM, dJ, _⟩ := bA
  obtain ⟨iO, gX, du, di, dq, dh, _⟩ := bu
  obtain ⟨gk, fM, cj, cn, cq, cw, _⟩ := aZ
  refine ⟨f, fd, eL F mL (fun cdv A outer s H E hr => ?_), F.kp, F.binds (fun _ _ _ _ _ _ us hl => tW hl fun _ _ _ => rfl), hm, aN F⟩
  exact (@au _ _ _ _ _ _ _ (e9 (aw (cu.mono (by decide)) hr rfl cf b9 cg (@af _ _ _ _ _ _ _ (ae 0) (@af _ _ _ _ _ _ _ (ae 1) aj rfl) rfl) (ah (ah aq))))
      (@au _ _ _ _ _ _ _ (e9 (aw (dP.mono (by decide)) hr rfl dJ dH dM (@af _ _ _ _ _ _ _ (ae 0) (@af _ _ _ _ _ _ _ (ae 2) aj rfl) rfl) (ah (ah aq))))
      (@az _ _ _ _ _ (@bC _ _ _ _ _ _ (gb (osc := ao (aE 24)) [] ["longer"] rfl rfl rfl rfl (by decide +kernel) ⟨by decide +kernel, by decide +kernel, rfl, by decide +kernel, rfl, by decide +kernel⟩ (@gU _ _ _ _ _ _ (aw (du.mono (by decide)) hr rfl dh di dq (@af _ _ _ _ _ _ _ (ae 0) (@af _ _ _ _ _ _ _ (ae 2) (@af _ _ _ _ _ _ _ (aw (cj.mono (by decide)) hr rfl cw cn cq (@af _ _ _ _ _ _ _ (ae 0) (@af _ _ _ _ _ _ _ (ae 1) aj rfl) rfl) (ah (ah aq))) aj rfl) rfl) rfl) (ah (ah (ah aq)))))
        (fun cl C aM aU fp => oP) (fun cl C aM aU fp => (@fj _ _ _ _ _ _ _ _ _ _ dB fh (ae 0) (@tS _ _ _ _ _ _ _ _ _ oz oq ax) (fun _ _ => rfl))))))))
theorem bE : aL ["n", "number", "many_with", "begun", "place", "longer", "many"] ["n", "number", "many_with"] (ao (aE 35)) := ⟨rfl, rfl, rfl, by decide +kernel, rfl, by decide +kernel, by decide +kernel⟩
theorem j2 (D : aI K mg "order_numbered" (aE 35)) (T : Blt mg) (bu : Has P w K mg base g "longer_ones" 4 ["n", "begun", "many_with"] a_) (aA : Has P w K mg base g "begun_count" 2 ["rests", "k", "begun"] aP) : Has P w K mg base g "order_numbered" 5 ["n", "number", "many_with"] bK := by
  obtain ⟨f, fd, hm, F⟩ := D
  obtain ⟨iO, gX, du, di, dq, dh, _⟩ := bu
  obtain ⟨dg, cQ, aY, a9, a8, aX, _⟩ := aA
  have TC : ∀ x np m, fS x = some (np, m) -> ∃ f fd ps, mg x = some (.ref f) /\ eS P w K mg base CX0 3 f fd ps (spM K g np m) /\ PySem.W.keepIn K (.ref f) = true /\ Binds K fd ps [] := by
    intro x np m e
    unfold fS at e
    by_cases ay : x = "begun_count"
    · rw [if_pos ay] at e; cases e; rw [ay]; exact ⟨_, _, _, aX, aY.mono (by decide), a9, a8⟩
    rw [if_neg ay] at e
    cases e
  refine ⟨f, fd, eL F bE (fun cdv A outer s H E hr => ?_), F.kp, F.binds (fun _ _ _ _ _ _ us hl => tW hl fun _ _ _ => rfl), hm, aN F⟩
  exact (@au _ _ _ _ _ _ _ (@cR _ _ _ _ _ _ 3 _ _ bE.nd rfl (by first | exact Or.inl rfl | exact Or.inr rfl) (@ky _ _ _ _ _ _ _ aj) rfl (.inl rfl))
      (@au _ _ _ _ _ _ _ (jL PassesOwn.never rfl (iA rfl T.range (@af _ _ _ _ _ _ _ (ae 0) aj rfl)) (cy (i := 4) bE.nd rfl (by first | exact Or.inl rfl | exact Or.inr rfl)) gC (@az _ _ _ _ _ (jL PassesOwn.never rfl (@gU _ _ _ _ _ _ (aw (du.mono (by decide)) hr rfl dh di dq (@af _ _ _ _ _ _ _ (ae 0) (@af _ _ _ _ _ _ _ (ae 3) (@af _ _ _ _ _ _ _ (ae 2) aj rfl) rfl) rfl) (ah (ah (ah aq))))) (cy (i := 5) bE.nd rfl (by first | exact Or.inl rfl | exact Or.inr rfl)) gC (@au _ _ _ _ _ _ _ (@cR _ _ _ _ _ _ 6 _ _ bE.nd rfl (by first | exact Or.inl rfl | exact Or.inr rfl) (jh TC hr (ae 2) (@af _ _ _ _ _ _ _ (ae 5) aj rfl) (ah aq)) rfl (.inl rfl))
      (@au _ _ _ _ _ _ _ (@iI _ _ _ _ _ _ _ _ _ _ (@bQ _ _ _ _ _ _ _ _ _ _ _ nW nh (ae 1) (ae 6) (bM _)) (@au _ _ _ _ _ _ _ (@cR _ _ _ _ _ _ 3 _ _ bE.nd rfl (by first | exact Or.inl rfl | exact Or.inr rfl) (ae 5) rfl (.inl rfl))
      (@az _ _ _ _ _ DU)) bY)
      (@az _ _ _ _ _ (BB (i := 1) bE.nd rfl (by first | exact Or.inl rfl | exact Or.inr rfl) (ae 6) CC BY)))))))
      (@az _ _ _ _ _ (@bC _ _ _ _ _ _ (ae 3)))))
theorem l4 : aL ["n", "k", "number", "many_with"] ["n", "k", "number"] (ao (aE 20)) := ⟨rfl, rfl, rfl, by decide +kernel, rfl, by decide +kernel, by decide +kernel⟩
theorem rh (D : aI K mg "order_at" (aE 20)) (T : Blt mg) (aS : Has P w K mg base g "numbers_needed" 4 ["n", "k"] bc) (aZ : Has P w K mg base g "counter_of" 3 ["n", "k"] aV) (bV : Has P w K mg base g "number_needed" 3 ["thing", "least", "most"] bG) (aA : Has P w K mg base g "begun_count" 2 ["rests", "k", "begun"] aP) (bJ : Has P w K mg base g "order_numbered" 5 ["n", "number", "many_with"] bK) : Has P w K mg base g "order_at" 6 ["n", "k", "number"] eK := by
  obtain ⟨f, fd, hm, F⟩ := D
  obtain ⟨gf, fO, cu, b9, cg, cf, _⟩ := aS
  obtain ⟨gk, fM, cj, cn, cq, cw, _⟩ := aZ
  obtain ⟨k6, ku, dF, dE, dD, dC, _⟩ := bV
  obtain ⟨dg, cQ, aY, a9, a8, aX, _⟩ := aA
  obtain ⟨ke, jD, eI, eC, eP, eG, _⟩ := bJ
  have TC : ∀ x np m, fS x = some (np, m) -> ∃ f fd ps, mg x = some (.ref f) /\ eS P w K mg base CX0 4 f fd ps (spM K g np m) /\ PySem.W.keepIn K (.ref f) = true /\ Binds K fd ps [] := by
    intro x np m e
    unfold fS at e
    by_cases ay : x = "begun_count"
    · rw [if_pos ay] at e; cases e; rw [ay]; exact ⟨_, _, _, aX, aY.mono (by decide), a9, a8⟩
    rw [if_neg ay] at e
    cases e
  refine ⟨f, fd, eL F l4 (fun cdv A outer s H E hr => ?_), F.kp, F.binds (fun _ _ _ _ _ _ us hl => tW hl fun _ _ _ => rfl), hm, aN F⟩
  exact (@au _ _ _ _ _ _ _ (e9 (aw (cu.mono (by decide)) hr rfl cf b9 cg (@af _ _ _ _ _ _ _ (ae 0) (@af _ _ _ _ _ _ _ (ae 1) aj rfl) rfl) (ah (ah aq))))
      (@au _ _ _ _ _ _ _ (@cR _ _ _ _ _ _ 3 _ _ l4.nd rfl (by first | exact Or.inl rfl | exact Or.inr rfl) (aw (cj.mono (by decide)) hr rfl cw cn cq (@af _ _ _ _ _ _ _ (ae 0) (@af _ _ _ _ _ _ _ (ae 1) aj rfl) rfl) (ah (ah aq))) rfl (.inl rfl))
      (@au _ _ _ _ _ _ _ (e9 (aw (dF.mono (by decide)) hr rfl dC dE dD (@af _ _ _ _ _ _ _ (ae 2) (@af _ _ _ _ _ _ _ ax (@af _ _ _ _ _ _ _ (@aQ _ _ _ _ _ _ _ _ _ _ _ eO eH (jh TC hr (ae 3) (@af _ _ _ _ _ _ _ (@ky _ _ _ _ _ _ _ aj) aj rfl) (ah aq)) ax) aj rfl) rfl) rfl) (ah (ah (ah aq)))))
      (@az _ _ _ _ _ (@bC _ _ _ _ _ _ (aw (eI.mono (by decide)) hr rfl eG eC eP (@af _ _ _ _ _ _ _ (ae 0) (@af _ _ _ _ _ _ _ (ae 2) (@af _ _ _ _ _ _ _ (ae 3) aj rfl) rfl) rfl) (ah (ah (ah aq)))))))))
theorem jH : aL ["thing", "number"] ["thing"] (ao (aE 12)) := ⟨rfl, rfl, rfl, by decide +kernel, rfl, by decide +kernel, by decide +kernel⟩
theorem oA (D : aI K mg "order_good" (aE 12)) (T : Blt mg) {jc : Tok} (gi : mg "MOST_NUMBERS" = some (.int 20 jc)) (bP : Has P w K mg base g "is_within" 2 ["thing", "least", "most"] bS) : Has P w K mg base g "order_good" 3 ["thing"] e8 := by
  obtain ⟨f, fd, hm, F⟩ := D
  obtain ⟨jV, js, eh, ed, d_, eA, _⟩ := bP
  refine ⟨f, fd, jv (eL F jH (fun cdv A outer s H E hr => ?_)), F.kp, F.binds (fun _ _ _ _ _ _ us hl => kh hl fun _ => rfl), hm, aN F⟩
  exact (@au _ _ _ _ _ _ _ (@iI _ _ _ _ _ _ _ _ _ _ (PW.pt (@vh _ _ _ _ _ _ _ _ _ (@i8 _ _ _ _ _ _ (@gx _ _ _ _ _ _ j4 (rl (ae 0) rfl T.isinstance rfl T.tuple PyProof.Rows.boot_tuple) (fun _ => rfl))) (@ug _ _ _ _ _ _ (@i8 _ _ _ _ _ _ (tO sR sR t6 t6 ax (aO bI bN rfl T.len PySem.boot_len (@af _ _ _ _ _ _ _ (ae 0) aj rfl)) (kO rfl gi)))))) (@az _ _ _ _ _ (@bC _ _ _ _ _ _ jT)) bY)
      (@au _ _ _ _ _ _ _ (jL PassesOwn.never rfl (@gU _ _ _ _ _ _ (ae 0)) (cy (i := 1) jH.nd rfl (by first | exact Or.inl rfl | exact Or.inr rfl)) gC (@az _ _ _ _ _ (@iI _ _ _ _ _ _ _ _ _ _ (@i8 _ _ _ _ _ _ (@gx _ _ _ _ _ _ j4 (aw (eh.mono (by decide)) hr rfl eA ed d_ (@af _ _ _ _ _ _ _ (ae 1) (@af _ _ _ _ _ _ _ ax (@af _ _ _ _ _ _ _ (@aQ _ _ _ _ _ _ _ _ _ _ _ eO eH (aO bI bN rfl T.len PySem.boot_len (@af _ _ _ _ _ _ _ (ae 0) aj rfl)) ax) aj rfl) rfl) rfl) (ah (ah (ah aq)))) (fun _ => rfl))) (@az _ _ _ _ _ (@bC _ _ _ _ _ _ jT)) bY)))
      (@az _ _ _ _ _ (@bC _ _ _ _ _ _ (@uS _ _ _ _ _ _ _ _ _ _ _ (oR hr.units) tE (aO bI bN rfl T.len PySem.boot_len (@af _ _ _ _ _ _ _ (fU (kE rfl) zl rfl T.set PyProof.Rows.boot_set (@af _ _ _ _ _ _ _ (ae 0) aj rfl)) aj rfl)) (aO bI bN rfl T.len PySem.boot_len (@af _ _ _ _ _ _ _ (ae 0) aj rfl)) (bM _))))))
theorem mn : aL ["thing"] ["thing"] (ao (aE 13)) := ⟨rfl, rfl, rfl, by decide +kernel, rfl, by decide +kernel, by decide +kernel⟩
theorem lX (D : aI K mg "order_needed" (aE 13)) (T : Blt mg) (gc : Has P w K mg base g "order_good" 3 ["thing"] e8) : Has P w K mg base g "order_needed" 4 ["thing"] bD := by
  obtain ⟨f, fd, hm, F⟩ := D
  obtain ⟨yK, xh, nv, ou, nG, nF, _⟩ := gc
  refine ⟨f, fd, eL F mn (fun cdv A outer s H E hr => ?_), F.kp, F.binds (fun _ _ _ _ _ _ us hl => kh hl fun _ => rfl), hm, aN F⟩
  exact (@az _ _ _ _ _ (@iI _ _ _ _ _ _ _ _ _ _ (@i8 _ _ _ _ _ _ (@gx _ _ _ _ _ _ j4 (aw (nv.mono (by decide)) hr rfl nF ou nG (@af _ _ _ _ _ _ _ (ae 0) aj rfl) (ah aq)) (fun _ => rfl))) (@az _ _ _ _ _ (PS.imp kD fun E σ H ⟨α, env, h, s, w⟩ => w.elim)) bY))
theorem tB : aL ["order"] ["order"] (ao (aE 17)) := ⟨rfl, rfl, rfl, by decide +kernel, rfl, by decide +kernel, by decide +kernel⟩
theorem rK (D : aI K mg "contrary" (aE 17)) (T : Blt mg) (bg : Has P w K mg base g "order_needed" 4 ["thing"] bD) : Has P w K mg base g "contrary" 5 ["order"] fw := by
  obtain ⟨f, fd, hm, F⟩ := D
  obtain ⟨gW, gE, cS, cO, cK, cN, _⟩ := bg
  refine ⟨f, fd, eL F tB (fun cdv A outer s H E hr => ?_), F.kp, F.binds (fun _ _ _ _ _ _ us hl => kh hl fun _ => rfl), hm, aN F⟩
  exact (@au _ _ _ _ _ _ _ (e9 (aw (cS.mono (by decide)) hr rfl cN cO cK (@af _ _ _ _ _ _ _ (ae 0) aj rfl) (ah aq)))
      (@az _ _ _ _ _ (@bC _ _ _ _ _ _ (fU gQ oE rfl T.tuple PyProof.Rows.boot_tuple (@af _ _ _ _ _ _ _ (gb (osc := ao (aE 17)) [0] ["number", "order"] rfl rfl rfl rfl (by decide +kernel) ⟨by decide +kernel, by decide +kernel, rfl, by decide +kernel, rfl, by decide +kernel⟩ (@gU _ _ _ _ _ _ (ae 0))
        (fun cl C aM aU fp => oP) (fun cl C aM aU fp => (@aQ _ _ _ _ _ _ _ _ _ _ _ eO eH (@aQ _ _ _ _ _ _ _ _ _ _ _ eO eH (aO bI bN rfl T.len PySem.boot_len (@af _ _ _ _ _ _ _ (ae 1) aj rfl)) ax) (ae 0)))) aj rfl)))))
theorem lS : aL ["order"] ["order"] (ao (aE 26)) := ⟨rfl, rfl, rfl, by decide +kernel, rfl, by decide +kernel, by decide +kernel⟩
theorem kQ (D : aI K mg "listed_needed" (aE 26)) (T : Blt mg) {fD : Tok} (cJ : mg "MOST_LISTED" = some (.int 12 fD)) (bg : Has P w K mg base g "order_needed" 4 ["thing"] bD) : Has P w K mg base g "listed_needed" 5 ["order"] bX := by
  obtain ⟨f, fd, hm, F⟩ := D
  obtain ⟨gW, gE, cS, cO, cK, cN, _⟩ := bg
  refine ⟨f, fd, eL F lS (fun cdv A outer s H E hr => ?_), F.kp, F.binds (fun _ _ _ _ _ _ us hl => kh hl fun _ => rfl), hm, aN F⟩
  exact (@au _ _ _ _ _ _ _ (e9 (aw (cS.mono (by decide)) hr rfl cN cO cK (@af _ _ _ _ _ _ _ (ae 0) aj rfl) (ah aq)))
      (@az _ _ _ _ _ (@iI _ _ _ _ _ _ _ _ _ _ (@bQ _ _ _ _ _ _ _ _ _ _ _ qm pO (aO bI bN rfl T.len PySem.boot_len (@af _ _ _ _ _ _ _ (ae 0) aj rfl)) (kO rfl cJ) (bM _)) (@az _ _ _ _ _ (PS.imp kD fun E σ H ⟨α, env, h, s, w⟩ => w.elim)) bY)))
theorem dn : aL ["order", "many_with", "number", "place", "longer"] ["order", "many_with"] (ao (aE 36)) := ⟨rfl, rfl, rfl, by decide +kernel, rfl, by decide +kernel, by decide +kernel⟩
theorem lV (D : aI K mg "number_among" (aE 36)) (T : Blt mg) (bu : Has P w K mg base g "longer_ones" 4 ["n", "begun", "many_with"] a_) (aA : Has P w K mg base g "begun_count" 2 ["rests", "k", "begun"] aP) : Has P w K mg base g "number_among" 5 ["order", "many_with"] cx := by
  obtain ⟨f, fd, hm, F⟩ := D
  obtain ⟨iO, gX, du, di, dq, dh, _⟩ := bu
  obtain ⟨dg, cQ, aY, a9, a8, aX, _⟩ := aA
  have TC : ∀ x np m, fS x = some (np, m) -> ∃ f fd ps, mg x = some (.ref f) /\ eS P w K mg base CX0 3 f fd ps (spM K g np m) /\ PySem.W.keepIn K (.ref f) = true /\ Binds K fd ps [] := by
    intro x np m e
    unfold fS at e
    by_cases ay : x = "begun_count"
    · rw [if_pos ay] at e; cases e; rw [ay]; exact ⟨_, _, _, aX, aY.mono (by decide), a9, a8⟩
    rw [if_neg ay] at e
    cases e
  refine ⟨f, fd, eL F dn (fun cdv A outer s H E hr => ?_), F.kp, F.binds (fun _ _ _ _ _ _ us hl => qy hl fun _ _ => rfl), hm, aN F⟩
  exact (@au _ _ _ _ _ _ _ (@cR _ _ _ _ _ _ 2 _ _ dn.nd rfl (by first | exact Or.inl rfl | exact Or.inr rfl) ax rfl (.inl rfl))
      (@au _ _ _ _ _ _ _ (jL PassesOwn.never rfl (iA rfl T.range (@af _ _ _ _ _ _ _ (aO bI bN rfl T.len PySem.boot_len (@af _ _ _ _ _ _ _ (ae 0) aj rfl)) aj rfl)) (cy (i := 3) dn.nd rfl (by first | exact Or.inl rfl | exact Or.inr rfl)) gC (@az _ _ _ _ _ (jL PassesOwn.never rfl (@gU _ _ _ _ _ _ (aw (du.mono (by decide)) hr rfl dh di dq (@af _ _ _ _ _ _ _ (aO bI bN rfl T.len PySem.boot_len (@af _ _ _ _ _ _ _ (ae 0) aj rfl)) (@af _ _ _ _ _ _ _ (oX (ae 0) vP (@mV _ _ _ _ _ (ae 3))) (@af _ _ _ _ _ _ _ (ae 1) aj rfl) rfl) rfl) (ah (ah (ah aq))))) (cy (i := 4) dn.nd rfl (by first | exact Or.inl rfl | exact Or.inr rfl)) gC (@az _ _ _ _ _ (@iI _ _ _ _ _ _ _ _ _ _ (@bQ _ _ _ _ _ _ _ _ _ _ _ nW nh (@fj _ _ _ _ _ _ _ _ _ _ dB fh (ae 4) (@tS _ _ _ _ _ _ _ _ _ oz oq ax) (fun _ _ => rfl)) (@fj _ _ _ _ _ _ _ _ _ _ dB fh (ae 0) (ae 3) (fun _ _ => rfl)) (bM _)) (@az _ _ _ _ _ (BB (i := 2) dn.nd rfl (by first | exact Or.inl rfl | exact Or.inr rfl) (jh TC hr (ae 1) (@af _ _ _ _ _ _ _ (ae 4) aj rfl) (ah aq)) xZ xt)) bY)))))
      (@az _ _ _ _ _ (@bC _ _ _ _ _ _ (ae 2)))))
theorem qW : aL ["order"] ["order"] (ao (aE 21)) := ⟨rfl, rfl, rfl, by decide +kernel, rfl, by decide +kernel, by decide +kernel⟩
theorem pB (D : aI K mg "number_of" (aE 21)) (T : Blt mg) (bW : Has P w K mg base g "listed_needed" 5 ["order"] bX) (bZ : Has P w K mg base g "number_among" 5 ["order", "many_with"] cx) (aZ : Has P w K mg base g "counter_of" 3 ["n", "k"] aV) (br : Has P w K mg base g "falls_in" 1 ["numbers"] cb) : Has P w K mg base g "number_of" 6 ["order"] cV := by
  obtain ⟨f, fd, hm, F⟩ := D
  obtain ⟨kN, j9, eW, eU, e_, eY, _⟩ := bW
  obtain ⟨lN, kG, fB, fk, ft, fq, _⟩ := bZ
  obtain ⟨gk, fM, cj, cn, cq, cw, _⟩ := aZ
  obtain ⟨ic, gJ, df, de, cX, cY, _⟩ := br
  refine ⟨f, fd, eL F qW (fun cdv A outer s H E hr => ?_), F.kp, F.binds (fun _ _ _ _ _ _ us hl => kh hl fun _ => rfl), hm, aN F⟩
  exact (@au _ _ _ _ _ _ _ (e9 (aw (eW.mono (by decide)) hr rfl eY eU e_ (@af _ _ _ _ _ _ _ (ae 0) aj rfl) (ah aq)))
      (@az _ _ _ _ _ (@bC _ _ _ _ _ _ (aw (fB.mono (by decide)) hr rfl fq fk ft (@af _ _ _ _ _ _ _ (ae 0) (@af _ _ _ _ _ _ _ (aw (cj.mono (by decide)) hr rfl cw cn cq (@af _ _ _ _ _ _ _ (aO bI bN rfl T.len PySem.boot_len (@af _ _ _ _ _ _ _ (ae 0) aj rfl)) (@af _ _ _ _ _ _ _ (aO bI bN rfl T.len PySem.boot_len (@af _ _ _ _ _ _ _ (aw (df.mono (by decide)) hr rfl cY de cX (@af _ _ _ _ _ _ _ (ae 0) aj rfl) (ah aq)) aj rfl)) aj rfl) rfl) (ah (ah aq))) aj rfl) rfl) (ah (ah aq))))))
theorem sM : aL ["order"] ["order"] (ao (aE 15)) := ⟨rfl, rfl, rfl, by decide +kernel, rfl, by decide +kernel, by decide +kernel⟩
theorem rA (D : aI K mg "falls_of" (aE 15)) (T : Blt mg) (bg : Has P w K mg base g "order_needed" 4 ["thing"] bD) (br : Has P w K mg base g "falls_in" 1 ["numbers"] cb) : Has P w K mg base g "falls_of" 5 ["order"] iu := by
  obtain ⟨f, fd, hm, F⟩ := D
  obtain ⟨gW, gE, cS, cO, cK, cN, _⟩ := bg
  obtain ⟨ic, gJ, df, de, cX, cY, _⟩ := br
  refine ⟨f, fd, eL F sM (fun cdv A outer s H E hr => ?_), F.kp, F.binds (fun _ _ _ _ _ _ us hl => kh hl fun _ => rfl), hm, aN F⟩
  exact (@au _ _ _ _ _ _ _ (e9 (aw (cS.mono (by decide)) hr rfl cN cO cK (@af _ _ _ _ _ _ _ (ae 0) aj rfl) (ah aq)))
      (@az _ _ _ _ _ (@bC _ _ _ _ _ _ (aw (df.mono (by decide)) hr rfl cY de cX (@af _ _ _ _ _ _ _ (ae 0) aj rfl) (ah aq)))))
theorem pF : aL ["order"] ["order"] (ao (aE 16)) := ⟨rfl, rfl, rfl, by decide +kernel, rfl, by decide +kernel, by decide +kernel⟩
theorem oQ (D : aI K mg "falls_many" (aE 16)) (T : Blt mg) (il : Has P w K mg base g "falls_of" 5 ["order"] iu) : Has P w K mg base g "falls_many" 6 ["order"] cD := by
  obtain ⟨f, fd, hm, F⟩ := D
  obtain ⟨Ak, zE, se, rD, qM, rV, _⟩ := il
  refine ⟨f, fd, eL F pF (fun cdv A outer s H E hr => ?_), F.kp, F.binds (fun _ _ _ _ _ _ us hl => kh hl fun _ => rfl), hm, aN F⟩
  exact (@az _ _ _ _ _ (@bC _ _ _ _ _ _ (aO bI bN rfl T.len PySem.boot_len (@af _ _ _ _ _ _ _ (aw (se.mono (by decide)) hr rfl rV rD qM (@af _ _ _ _ _ _ _ (ae 0) aj rfl) (ah aq)) aj rfl))))
theorem gH : aL ["order", "many_with", "number"] ["order"] (ao (aE 22)) := ⟨rfl, rfl, rfl, by decide +kernel, rfl, by decide +kernel, by decide +kernel⟩
theorem om (D : aI K mg "next_order" (aE 22)) (T : Blt mg) (bW : Has P w K mg base g "listed_needed" 5 ["order"] bX) (aZ : Has P w K mg base g "counter_of" 3 ["n", "k"] aV) (br : Has P w K mg base g "falls_in" 1 ["numbers"] cb) (bZ : Has P w K mg base g "number_among" 5 ["order", "many_with"] cx) (aA : Has P w K mg base g "begun_count" 2 ["rests", "k", "begun"] aP) (bJ : Has P w K mg base g "order_numbered" 5 ["n", "number", "many_with"] bK) : Has P w K mg base g "next_order" 6 ["order"] cZ := by
  obtain ⟨f, fd, hm, F⟩ := D
  obtain ⟨kN, j9, eW, eU, e_, eY, _⟩ := bW
  obtain ⟨gk, fM, cj, cn, cq, cw, _⟩ := aZ
  obtain ⟨ic, gJ, df, de, cX, cY, _⟩ := br
  obtain ⟨lN, kG, fB, fk, ft, fq, _⟩ := bZ
  obtain ⟨dg, cQ, aY, a9, a8, aX, _⟩ := aA
  obtain ⟨ke, jD, eI, eC, eP, eG, _⟩ := bJ
  have TC : ∀ x np m, fS x = some (np, m) -> ∃ f fd ps, mg x = some (.ref f) /\ eS P w K mg base CX0 4 f fd ps (spM K g np m) /\ PySem.W.keepIn K (.ref f) = true /\ Binds K fd ps [] := by
    intro x np m e
    unfold fS at e
    by_cases ay : x = "begun_count"
    · rw [if_pos ay] at e; cases e; rw [ay]; exact ⟨_, _, _, aX, aY.mono (by decide), a9, a8⟩
    rw [if_neg ay] at e
    cases e
  refine ⟨f, fd, eL F gH (fun cdv A outer s H E hr => ?_), F.kp, F.binds (fun _ _ _ _ _ _ us hl => kh hl fun _ => rfl), hm, aN F⟩
  exact (@au _ _ _ _ _ _ _ (e9 (aw (eW.mono (by decide)) hr rfl eY eU e_ (@af _ _ _ _ _ _ _ (ae 0) aj rfl) (ah aq)))
      (@au _ _ _ _ _ _ _ (@cR _ _ _ _ _ _ 1 _ _ gH.nd rfl (by first | exact Or.inl rfl | exact Or.inr rfl) (aw (cj.mono (by decide)) hr rfl cw cn cq (@af _ _ _ _ _ _ _ (aO bI bN rfl T.len PySem.boot_len (@af _ _ _ _ _ _ _ (ae 0) aj rfl)) (@af _ _ _ _ _ _ _ (aO bI bN rfl T.len PySem.boot_len (@af _ _ _ _ _ _ _ (aw (df.mono (by decide)) hr rfl cY de cX (@af _ _ _ _ _ _ _ (ae 0) aj rfl) (ah aq)) aj rfl)) aj rfl) rfl) (ah (ah aq))) rfl (.inl rfl))
      (@au _ _ _ _ _ _ _ (@cR _ _ _ _ _ _ 2 _ _ gH.nd rfl (by first | exact Or.inl rfl | exact Or.inr rfl) (@aQ _ _ _ _ _ _ _ _ _ _ _ dY dZ (aw (fB.mono (by decide)) hr rfl fq fk ft (@af _ _ _ _ _ _ _ (ae 0) (@af _ _ _ _ _ _ _ (ae 1) aj rfl) rfl) (ah (ah aq))) ax) rfl (.inl rfl))
      (@au _ _ _ _ _ _ _ (@iI _ _ _ _ _ _ _ _ _ _ (@bQ _ _ _ _ _ _ _ _ _ _ _ (oR hr.units) tE (ae 2) (jh TC hr (ae 1) (@af _ _ _ _ _ _ _ (@ky _ _ _ _ _ _ _ aj) aj rfl) (ah aq)) (bM _)) (@az _ _ _ _ _ (@bC _ _ _ _ _ _ uN)) bY)
      (@az _ _ _ _ _ (@bC _ _ _ _ _ _ (aw (eI.mono (by decide)) hr rfl eG eC eP (@af _ _ _ _ _ _ _ (aO bI bN rfl T.len PySem.boot_len (@af _ _ _ _ _ _ _ (ae 0) aj rfl)) (@af _ _ _ _ _ _ _ (ae 2) (@af _ _ _ _ _ _ _ (ae 1) aj rfl) rfl) rfl) (ah (ah (ah aq))))))))))
theorem eM : aL ["_law_script", "_law_cell", "_law_pen", "_law_n", "_law_size", "_law_k", "_law_begun", "_law_more", "_law_counts", "_law_many", "_law_number", "_law_order_here", "_law_last", "_law_other"] ["_law_script"] (ao (aE 43)) := ⟨rfl, rfl, rfl, by decide +kernel, rfl, by decide +kernel, by decide +kernel⟩
theorem AF (D : aI K mg "law" (aE 43)) (T : Blt mg) (fA : Has P w K mg base g "_law_cell_at" 1 ["_law_script", "_law_k"] b_) (fL : Has P w K mg base g "_law_pen_of" 1 ["_law_cell"] cH) (dz : Has P w K mg base g "_law_draw" 2 ["_law_pen", "_law_many"] aD) (gv : Has P w K mg base g "_law_order" 3 ["_law_pen", "_law_n"] cG) (fW : Has P w K mg base g "begun_many" 5 ["n", "k", "begun"] ba) (fv : Has P w K mg base g "next_numbers" 5 ["n", "k", "begun"] cm) (iq : Has P w K mg base g "order_at" 6 ["n", "k", "number"] eK) (ip : Has P w K mg base g "contrary" 5 ["order"] fw) (gS : Has P w K mg base g "number_of" 6 ["order"] cV) (f_ : Has P w K mg base g "falls_many" 6 ["order"] cD) (gm : Has P w K mg base g "next_order" 6 ["order"] cZ) : Has P w K mg base g "law" 7 ["_law_script"] oF := by
  obtain ⟨f, fd, hm, F⟩ := D
  obtain ⟨wO, vU, lG, lD, k9, ly, _⟩ := fA
  obtain ⟨xj, wK, mx, mR, mK, mQ, _⟩ := fL
  obtain ⟨pq, nj, dA, dy, dw, dv, _⟩ := dz
  obtain ⟨zj, xl, n9, nk, oG, nI, _⟩ := gv
  obtain ⟨yo, xg, gw, gr, gj, gg, _⟩ := fW
  obtain ⟨wq, vS, lI, lK, lg, lZ, _⟩ := fv
  obtain ⟨Bh, zF, rk, rf, qO, qw, _⟩ := iq
  obtain ⟨AD, zG, rz, rJ, rq, sf, _⟩ := ip
  obtain ⟨zH, xN, jN, jJ, jQ, jO, _⟩ := gS
  obtain ⟨yf, xi, ja, jq, jb, iW, _⟩ := f_
  obtain ⟨yr, xn, nO, nL, nD, nN, _⟩ := gm
  refine ⟨f, fd, jv (eL F eM (fun cdv A outer s H E hr => ?_)), F.kp, F.binds (fun _ _ _ _ _ _ us hl => kh hl fun _ => rfl), hm, aN F⟩
  exact (@au _ _ _ _ _ _ _ (jL PassesOwn.never rfl (@gU _ _ _ _ _ _ (@aQ _ _ _ _ _ _ _ _ _ _ _ dY dZ (@lu _ _ _ _ _ _ _ _ (@af _ _ _ _ _ _ _ (aw (lG.mono (by decide)) hr rfl ly lD k9 (@af _ _ _ _ _ _ _ (ae 0) (@af _ _ _ _ _ _ _ ax aj rfl) rfl) (ah (ah aq))) aj rfl)) (oX (ae 0) (@mV _ _ _ _ _ ax) (@mV _ _ _ _ _ ax)))) (cy (i := 1) eM.nd rfl (by first | exact Or.inl rfl | exact Or.inr rfl)) gC (@au _ _ _ _ _ _ _ (@cR _ _ _ _ _ _ 2 _ _ eM.nd rfl (by first | exact Or.inl rfl | exact Or.inr rfl) (aw (mx.mono (by decide)) hr rfl mQ mR mK (@af _ _ _ _ _ _ _ (ae 1) aj rfl) (ah aq)) rfl (.inl rfl))
      (@au _ _ _ _ _ _ _ (@cR _ _ _ _ _ _ 3 _ _ eM.nd rfl (by first | exact Or.inl rfl | exact Or.inr rfl) (@aQ _ _ _ _ _ _ _ _ _ _ _ dY dZ ax (aw (dA.mono (by decide)) hr rfl dv dy dw (@af _ _ _ _ _ _ _ (ae 2) (@af _ _ _ _ _ _ _ ax aj rfl) rfl) (ah (ah aq)))) rfl (.inl rfl))
      (@au _ _ _ _ _ _ _ (DL (i := 4) (j := 5) rfl eM.nd rfl rfl (@ky _ _ _ _ _ _ _ (@af _ _ _ _ _ _ _ (aw (dA.mono (by decide)) hr rfl dv dy dw (@af _ _ _ _ _ _ _ (ae 2) (@af _ _ _ _ _ _ _ (ae 3) aj rfl) rfl) (ah (ah aq))) (@af _ _ _ _ _ _ _ (aw (dA.mono (by decide)) hr rfl dv dy dw (@af _ _ _ _ _ _ _ (ae 2) (@af _ _ _ _ _ _ _ (ae 3) aj rfl) rfl) (ah (ah aq))) aj rfl) rfl)))
      (@au _ _ _ _ _ _ _ (@cR _ _ _ _ _ _ 6 _ _ eM.nd rfl (by first | exact Or.inl rfl | exact Or.inr rfl) (oX (aw (n9.mono (by decide)) hr rfl nI nk oG (@af _ _ _ _ _ _ _ (ae 2) (@af _ _ _ _ _ _ _ (ae 3) aj rfl) rfl) (ah (ah aq))) vP (@mV _ _ _ _ _ (ae 4))) rfl (.inl rfl))
      (@au _ _ _ _ _ _ _ (j_ (osc := ao (aE 43)) [6] ["_law_number", "_law_begun"] rfl rfl rfl rfl (by decide +kernel) ⟨by decide +kernel, by decide +kernel, rfl, by decide +kernel, rfl, by decide +kernel⟩ (iA rfl T.range (@af _ _ _ _ _ _ _ (ae 3) aj rfl))
        (fun cl C aM aU fp => (lh (@bQ _ _ _ _ _ _ _ _ _ _ _ kC BJ (ae 0) (ae 1) (by rfl)))) (fun cl C aM aU fp => (ae 0)) (i := 7) eM.nd rfl)
      (@au _ _ _ _ _ _ _ (j_ (osc := ao (aE 43)) [3, 5, 6] ["_law_number", "_law_n", "_law_k", "_law_begun"] rfl rfl rfl rfl (by decide +kernel) ⟨by decide +kernel, by decide +kernel, rfl, by decide +kernel, rfl, by decide +kernel⟩ (@gU _ _ _ _ _ _ (ae 7))
        (fun cl C aM aU fp => oP) (fun cl C aM aU fp => (aw (gw.mono (by decide)) hr rfl gg gr gj (@af _ _ _ _ _ _ _ (ae 1) (@af _ _ _ _ _ _ _ (ae 2) (@af _ _ _ _ _ _ _ (@aQ _ _ _ _ _ _ _ _ _ _ _ dY dZ (ae 3) (@ky _ _ _ _ _ _ _ (@af _ _ _ _ _ _ _ (ae 0) aj rfl))) aj rfl) rfl) rfl) (ah (ah (ah aq))))) (i := 8) eM.nd rfl)
      (@au _ _ _ _ _ _ _ (@iI _ _ _ _ _ _ _ _ _ _ (@bQ _ _ _ _ _ _ _ _ _ _ _ (j8 hr.units) nr (aO (wU rfl) Cw rfl T.sum PyProof.Rows.boot_sum (@af _ _ _ _ _ _ _ (ae 8) aj rfl)) (aw (gw.mono (by decide)) hr rfl gg gr gj (@af _ _ _ _ _ _ _ (ae 3) (@af _ _ _ _ _ _ _ (ae 5) (@af _ _ _ _ _ _ _ (ae 6) aj rfl) rfl) rfl) (ah (ah (ah aq)))) (bM _)) (@az _ _ _ _ _ (@bC _ _ _ _ _ _ jT)) bY)
      (@au _ _ _ _ _ _ _ (@iI _ _ _ _ _ _ _ _ _ _ (@bQ _ _ _ _ _ _ _ _ _ _ _ (j8 hr.units) nr (aw (lI.mono (by decide)) hr rfl lZ lK lg (@af _ _ _ _ _ _ _ (ae 3) (@af _ _ _ _ _ _ _ (ae 5) (@af _ _ _ _ _ _ _ (ae 6) aj rfl) rfl) rfl) (ah (ah (ah aq)))) (yJ (osc := ao (aE 43)) [] ["_law_number", "_law_many"] rfl rfl rfl rfl (by decide +kernel) ⟨by decide +kernel, by decide +kernel, rfl, by decide +kernel, by decide +kernel⟩ (zY rfl T.zip (@af _ _ _ _ _ _ _ (ae 7) (@af _ _ _ _ _ _ _ (ae 8) aj rfl) rfl)) (fun cl C aM aU fp => ⟨Or.inl rfl, rfl⟩) (fun cl C aM aU fp => ⟨Or.inl rfl, rfl⟩)
        (fun cl C aM aU fp => (lh (@bQ _ _ _ _ _ _ _ _ _ _ _ qm pO (ae 1) ax (bM _)))) (fun cl C aM aU fp => (ae 0))) (bM _)) (@az _ _ _ _ _ (@bC _ _ _ _ _ _ jT)) bY)
      (@au _ _ _ _ _ _ _ (@cR _ _ _ _ _ _ 9 _ _ eM.nd rfl (by first | exact Or.inl rfl | exact Or.inr rfl) (aw (gw.mono (by decide)) hr rfl gg gr gj (@af _ _ _ _ _ _ _ (ae 3) (@af _ _ _ _ _ _ _ (ae 5) (@af _ _ _ _ _ _ _ (@ky _ _ _ _ _ _ _ aj) aj rfl) rfl) rfl) (ah (ah (ah aq)))) rfl (.inl rfl))
      (@au _ _ _ _ _ _ _ (@cR _ _ _ _ _ _ 10 _ _ eM.nd rfl (by first | exact Or.inl rfl | exact Or.inr rfl) (aw (dA.mono (by decide)) hr rfl dv dy dw (@af _ _ _ _ _ _ _ (ae 2) (@af _ _ _ _ _ _ _ (ae 9) aj rfl) rfl) (ah (ah aq))) rfl (.inl rfl))
      (@au _ _ _ _ _ _ _ (@cR _ _ _ _ _ _ 11 _ _ eM.nd rfl (by first | exact Or.inl rfl | exact Or.inr rfl) (aw (rk.mono (by decide)) hr rfl qw rf qO (@af _ _ _ _ _ _ _ (ae 3) (@af _ _ _ _ _ _ _ (ae 5) (@af _ _ _ _ _ _ _ (ae 10) aj rfl) rfl) rfl) (ah (ah (ah aq)))) rfl (.inl rfl))
      (@au _ _ _ _ _ _ _ (@cR _ _ _ _ _ _ 12 _ _ eM.nd rfl (by first | exact Or.inl rfl | exact Or.inr rfl) (@aQ _ _ _ _ _ _ _ _ _ _ _ dY dZ (ae 10) ax) rfl (.inl rfl))
      (@au _ _ _ _ _ _ _ (@AE _ _ _ _ _ _ _ _ 64 PassesOwn.never (PW.pt (@uT _ _ _ _ _ _ _ _ _ (@bQ _ _ _ _ _ _ _ _ _ _ _ A_ Ao (ae 11) uN (bM _)) (@rQ _ _ _ _ _ _ (@bQ _ _ _ _ _ _ _ _ _ _ _ nW nh (ae 10) (ae 12) (bM _))))) (@au _ _ _ _ _ _ _ (@cR _ _ _ _ _ _ 13 _ _ eM.nd rfl (by first | exact Or.inl rfl | exact Or.inr rfl) (aw (rz.mono (by decide)) hr rfl sf rJ rq (@af _ _ _ _ _ _ _ (ae 11) aj rfl) (ah aq)) rfl (.inl rfl))
      (@au _ _ _ _ _ _ _ (@iI _ _ _ _ _ _ _ _ _ _ (PW.pt (@vh _ _ _ _ _ _ _ _ _ (@bQ _ _ _ _ _ _ _ _ _ _ _ (j8 hr.units) nr (aw (jN.mono (by decide)) hr rfl jO jJ jQ (@af _ _ _ _ _ _ _ (ae 11) aj rfl) (ah aq)) (ae 10) (bM _)) (@vh _ _ _ _ _ _ _ _ _ (@bQ _ _ _ _ _ _ _ _ _ _ _ (j8 hr.units) nr (aw (ja.mono (by decide)) hr rfl iW jq jb (@af _ _ _ _ _ _ _ (ae 11) aj rfl) (ah aq)) (ae 5) (bM _)) (@ug _ _ _ _ _ _ (@bQ _ _ _ _ _ _ _ _ _ _ _ (j8 hr.units) nr (aw (ja.mono (by decide)) hr rfl iW jq jb (@af _ _ _ _ _ _ _ (ae 13) aj rfl) (ah aq)) (@aQ _ _ _ _ _ _ _ _ _ _ _ eO eH (@aQ _ _ _ _ _ _ _ _ _ _ _ eO eH (ae 3) ax) (ae 5)) (bM _)))))) (@az _ _ _ _ _ (@bC _ _ _ _ _ _ jT)) bY)
      (@au _ _ _ _ _ _ _ (@iI _ _ _ _ _ _ _ _ _ _ (@bQ _ _ _ _ _ _ _ _ _ _ _ (j8 hr.units) nr (aw (jN.mono (by decide)) hr rfl jO jJ jQ (@af _ _ _ _ _ _ _ (ae 13) aj rfl) (ah aq)) (@aQ _ _ _ _ _ _ _ _ _ _ _ eO eH (@aQ _ _ _ _ _ _ _ _ _ _ _ eO eH (ae 9) ax) (ae 10)) (bM _)) (@az _ _ _ _ _ (@bC _ _ _ _ _ _ jT)) bY)
      (@au _ _ _ _ _ _ _ (@cR _ _ _ _ _ _ 11 _ _ eM.nd rfl (by first | exact Or.inl rfl | exact Or.inr rfl) (aw (nO.mono (by decide)) hr rfl nN nL nD (@af _ _ _ _ _ _ _ (ae 11) aj rfl) (ah aq)) rfl (.inl rfl))
      (@az _ _ _ _ _ (@cR _ _ _ _ _ _ 10 _ _ eM.nd rfl (by first | exact Or.inl rfl | exact Or.inr rfl) (@aQ _ _ _ _ _ _ _ _ _ _ _ dY dZ (ae 10) ax) rfl (.inl rfl))))))))
      (@az _ _ _ _ _ (@iI _ _ _ _ _ _ _ _ _ _ (PW.pt (@uT _ _ _ _ _ _ _ _ _ (@bQ _ _ _ _ _ _ _ _ _ _ _ Ca BS (ae 11) uN (bM _)) (@rQ _ _ _ _ _ _ (@bQ _ _ _ _ _ _ _ _ _ _ _ (j8 hr.units) nr (ae 10) (ae 9) (bM _))))) (@az _ _ _ _ _ (@bC _ _ _ _ _ _ jT)) bY))))))))))))))))
      (@az _ _ _ _ _ (@bC _ _ _ _ _ _ jT)))
end
structure Text (K : PySem.W.Frag) (ts : List Addr) : Prop where
  fZ : bT K "_law_cell_at" (aE 38)
  gM : bT K "_law_pen_of" (aE 40)
  iY : bT K "_law_next" (aE 39)
  jl : bT K "_law_draw" (aE 41)
  ik : bT K "_law_order" (aE 42)
  kg : bT K "is_whole" (aE 7)
  jf : bT K "is_within" (aE 8)
  fJ : bT K "number_needed" (aE 9)
  fC : bT K "numbers_needed" (aE 25)
  fm : bT K "beginning_good" (aE 27)
  eJ : bT K "beginning_needed" (aE 28)
  iF : bT K "lower_left" (aE 32)
  kf : bT K "falls_in" (aE 14)
  gL : bT K "begun_count" (aE 31)
  gP : bT K "rest_counts" (aE 30)
  j0 : bT K "rests_of" (aE 29)
  hZ : bT K "begun_many" (aE 23)
  gR : bT K "longer_ones" (aE 34)
  ib : bT K "counter_of" (aE 33)
  gh : bT K "next_numbers" (aE 24)
  fu : bT K "order_numbered" (aE 35)
  j7 : bT K "order_at" (aE 20)
  h7 : bT K "order_good" (aE 12)
  gu : bT K "order_needed" (aE 13)
  jW : bT K "contrary" (aE 17)
  fN : bT K "listed_needed" (aE 26)
  f9 : bT K "number_among" (aE 36)
  i3 : bT K "number_of" (aE 21)
  kz : bT K "falls_of" (aE 15)
  h8 : bT K "falls_many" (aE 16)
  iK : bT K "next_order" (aE 22)
  zo : bT K "law" (aE 43)
  ur : PySem.W.nsIn K mainGlobals "bool" = some none
  iU : PySem.W.nsIn K mainGlobals "enumerate" = some none
  xM : PySem.W.nsIn K mainGlobals "int" = some none
  iC : PySem.W.nsIn K mainGlobals "isinstance" = some none
  zg : PySem.W.nsIn K mainGlobals "len" = some none
  uO : PySem.W.nsIn K mainGlobals "list" = some none
  yO : PySem.W.nsIn K mainGlobals "max" = some none
  qI : PySem.W.nsIn K mainGlobals "range" = some none
  xy : PySem.W.nsIn K mainGlobals "set" = some none
  yj : PySem.W.nsIn K mainGlobals "sum" = some none
  qF : PySem.W.nsIn K mainGlobals "tuple" = some none
  yH : PySem.W.nsIn K mainGlobals "zip" = some none
  d9 : ∃ t, PySem.W.nsIn K mainGlobals "MOST_LISTED" = some (some (Value.int 12 t))
  dN : ∃ t, PySem.W.nsIn K mainGlobals "MOST_NUMBERS" = some (some (Value.int 20 t))
  aV : B4 K ts "counter_of" (aE 33)
theorem all_mk {P : Program} {w : World} {K : PySem.W.Frag} {h : Heap} {mg : Str -> Option Value} {fa : Addr} (X : K.In h) (G : h.Ns mainGlobals mg) (hfa : mg "law" = some (.ref fa)) {ts : List Addr} (hU : mkU K = true) (t : Text K ts) :
    ∃ fd : FuncData, (∀ (s : Shared) (v : Value), BindsTo s fd ⟨[v], []⟩ [("_law_script", v)]) /\ ∀ base : Heap, K.In base -> base.Ns mainGlobals mg -> (∀ P ∈ ts, base.BuiltinsAt mg P) -> eS P w K mg base CX0 7 fa fd ["_law_script"] (spM K (gOf mg) 1 oF) := by
  have T : Blt mg := ⟨PySem.W.mg_none_of X G t.ur, PySem.W.mg_none_of X G t.iU, PySem.W.mg_none_of X G t.xM, PySem.W.mg_none_of X G t.iC, PySem.W.mg_none_of X G t.zg, PySem.W.mg_none_of X G t.uO, PySem.W.mg_none_of X G t.yO, PySem.W.mg_none_of X G t.qI, PySem.W.mg_none_of X G t.xy, PySem.W.mg_none_of X G t.yj, PySem.W.mg_none_of X G t.qF, PySem.W.mg_none_of X G t.yH⟩
  obtain ⟨fD, d9⟩ := t.d9
  have cJ := PySem.W.mg_of X G d9
  obtain ⟨jc, dN⟩ := t.dN
  have gi := PySem.W.mg_of X G dN
  have n6 := aI.of X G t.fZ
  have ph := aI.of X G t.gM
  have sZ := aI.of X G t.iY
  have tG := aI.of X G t.jl
  have qD := aI.of X G t.ik
  have ux := aI.of X G t.kg
  have sx := aI.of X G t.jf
  have mC := aI.of X G t.fJ
  have lL := aI.of X G t.fC
  have lJ := aI.of X G t.fm
  have ko := aI.of X G t.eJ
  have rE := aI.of X G t.iF
  have uo := aI.of X G t.kf
  have pj := aI.of X G t.gL
  have oZ := aI.of X G t.gP
  have u7 := aI.of X G t.j0
  have rN := aI.of X G t.hZ
  have o6 := aI.of X G t.gR
  have qK := aI.of X G t.ib
  have oD := aI.of X G t.gh
  have lU := aI.of X G t.fu
  have u4 := aI.of X G t.j7
  have qQ := aI.of X G t.h7
  have oj := aI.of X G t.gu
  have uk := aI.of X G t.jW
  have mP := aI.of X G t.fN
  have oJ := aI.of X G t.f9
  have t5 := aI.of X G t.i3
  have u3 := aI.of X G t.kz
  have rT := aI.of X G t.h8
  have rP := aI.of X G t.iK
  have Dq := aI.of X G t.zo
  obtain ⟨f, fd, hm, F⟩ := Dq
  have e := hfa.symm.trans hm
  cases e
  refine ⟨fd, ?_, fun base _ _ hBA => ?_⟩
  · obtain ⟨oc, od, kV, doc, pm, an, cdv, ct, osl, rfl, lk, hcd⟩ := F.ex
    exact fun s v => .of_eq rfl
  · have fA := lR (P := P) (w := w) (base := base) (g := gOf mg) n6 T
    have fL := mD (P := P) (w := w) (base := base) (g := gOf mg) ph T
    have gK := pH (P := P) (w := w) (base := base) (g := gOf mg) sZ T
    have dz := pI (P := P) (w := w) (base := base) (g := gOf mg) tG T gK
    have gv := nU (P := P) (w := w) (base := base) (g := gOf mg) qD T dz
    have iB := rY (P := P) (w := w) (base := base) (g := gOf mg) ux T
    have bP := pd (P := P) (w := w) (base := base) (g := gOf mg) sx T iB
    have bV := kT (P := P) (w := w) (base := base) (g := gOf mg) mC T bP
    have aS := kr (P := P) (w := w) (base := base) (g := gOf mg) lL T cJ bV
    have eF := kx (P := P) (w := w) (base := base) (g := gOf mg) lJ T bP
    have bA := jj (P := P) (w := w) (base := base) (g := gOf mg) ko T eF
    have gy := oH (P := P) (w := w) (base := base) (g := gOf mg) rE T
    have br := rW (P := P) (w := w) (base := base) (g := gOf mg) uo T
    have aA := mI (P := P) (w := w) (base := base) (g := gOf mg) pj T gy br
    have fK := mH (P := P) (w := w) (base := base) (g := gOf mg) oZ T
    have dR := qH (P := P) (w := w) (base := base) (g := gOf mg) u7 T fK
    have fW := nJ (P := P) (w := w) (base := base) (g := gOf mg) rN T aS bA aA dR
    have bu := mJ (P := P) (w := w) (base := base) (g := gOf mg) o6 T aA
    have aZ := nP (P := P) (w := w) (base := base) (g := gOf mg) qK T (Bo.of X G hBA hU t.aV) dR
    have fv := lQ (P := P) (w := w) (base := base) (g := gOf mg) oD T aS bA bu aZ
    have bJ := j2 (P := P) (w := w) (base := base) (g := gOf mg) lU T bu aA
    have iq := rh (P := P) (w := w) (base := base) (g := gOf mg) u4 T aS aZ bV aA bJ
    have gc := oA (P := P) (w := w) (base := base) (g := gOf mg) qQ T gi bP
    have bg := lX (P := P) (w := w) (base := base) (g := gOf mg) oj T gc
    have ip := rK (P := P) (w := w) (base := base) (g := gOf mg) uk T bg
    have bW := kQ (P := P) (w := w) (base := base) (g := gOf mg) mP T cJ bg
    have bZ := lV (P := P) (w := w) (base := base) (g := gOf mg) oJ T bu aA
    have gS := pB (P := P) (w := w) (base := base) (g := gOf mg) t5 T bW bZ aZ br
    have il := rA (P := P) (w := w) (base := base) (g := gOf mg) u3 T bg br
    have f_ := oQ (P := P) (w := w) (base := base) (g := gOf mg) rT T il
    have gm := om (P := P) (w := w) (base := base) (g := gOf mg) rP T bW aZ br bZ aA bJ
    have Af := AF (P := P) (w := w) (base := base) (g := gOf mg) ⟨_, _, hm, F⟩ T fA fL dz gv fW fv iq ip gS f_ gm
    exact BQ F hm Af
theorem walk {l : PySem.W.OpenLaw} {q : Program} {loose : List Str} {XP : (Str -> Option Value) -> Heap -> Prop} {YP : World -> Heap -> Prop} {d : DefRec} {K : Params -> PySem.W.Frag} {ts : List Addr} (hn : l.most = some 63) (hdf : d.params.defaults = [])
    (hY : ∀ (w : World) (h : Heap), YP w h -> (K w.params).In h) (hT : ∀ (w : World) (h : Heap), YP w h -> ∀ P ∈ ts, h.get? P = some (PySem.W.tabObj #[])) (hI : ∀ P, B8 (K P) ts = true)
    (ok : ∀ ns : List Int, ns.length <= 63 -> ∃ h, oF [.scr (ns.map D.int)] [] = .ok (.bl true) h)
    (F : ∀ (w : World) (mg : Str -> Option Value) (fa : Addr) (h : Heap), (K w.params).In h -> h.Ns mainGlobals mg -> mg d.name = some (.ref fa) →
      ∃ fd : FuncData, (∀ (s : Shared) (u : Value), BindsTo s fd ⟨[u], []⟩ [("_law_script", u)]) /\ ∀ base : Heap, (K w.params).In base -> base.Ns mainGlobals mg -> (∀ P ∈ ts, base.BuiltinsAt mg P) -> eS l.prog w (K w.params) mg base CX0 7 fa fd ["_law_script"] (spM (K w.params) (gOf mg) 1 oF)) :
    PySem.W.WalkO q loose XP YP l.row.toRowW d [] (fun f vs => PySem.call f vs) :=
  A3 (k := 7) hn hdf ⟨rfl, by decide, by decide, rfl⟩ hY hT hI ok F
theorem p9 {i : Int} (h1 : -(10 ^ 30) <= i) (h2 : i <= 10 ^ 30) : sml i = true := CP (Nat.le_trans (show i.natAbs <= 10 ^ 30 by omega) (by decide +kernel))
theorem uF {h : Hh} {n : Nat} {ds : List D} (e : aF h n = some ds) : n < h.length := by
  unfold aF at e
  by_cases hl : n < h.length
  · exact hl
  · rw [List.getElem?_eq_none (by omega)] at e; cases e
theorem qN {h : Hh} {n : Nat} {ds es : List D} (e : aF h n = some ds) : aF (h.set n (.lst es)) n = some es := by
  unfold aF; rw [List.getElem?_set_self (uF e)]
theorem Ad {h t : Hh} {n : Nat} {ds : List D} (e : aF h n = some ds) : aF (h ++ t) n = some ds := by
  have := uF e
  unfold aF at e ⊢; rw [List.getElem?_append_left this]; exact e
theorem AS {h t : Hh} {n : Nat} {o : O} (hn : n < h.length) : (h ++ t).set n o = h.set n o ++ t := List.set_append_left _ _ hn
theorem xT {h : Hh} {n : Nat} {ds : List D} (e : aF h n = some ds) : h.set n (.lst ds) = h := by
  unfold aF at e
  split at e
  · rename_i ds' q
    cases e
    refine List.ext_getElem? fun i => ?_
    rw [List.getElem?_set]
    split
    · rename_i hi; subst hi
      have hl : n < h.length := by
        by_cases hl : n < h.length
        · exact hl
        · rw [List.getElem?_eq_none (by omega)] at q; cases q
      rw [if_pos hl, q]
    · rfl
  · cases e
theorem Ct {h : Hh} {n : Nat} {ds : List D} (w : Wf h) (l : cz h.length ds = true) : Wf (h.set n (.lst ds)) := by
  unfold Wf at w ⊢
  rw [List.length_set, List.all_eq_true] at *
  intro x hx
  rcases List.mem_or_eq_of_mem_set hx with hx | hx
  · exact w x hx
  · subst hx; exact l
structure Pen where
  a : Int
  b : Int
  s : Int
noncomputable abbrev cF (p : Pen) : List D := [.int p.a, .int p.b, .int p.s]
noncomputable def nxt (x : Int) : Int := ((x + 7919) % 2147483647 * ((x + 7919) % 2147483647) + 48271 * ((x + 7919) % 2147483647) + 12345) % 2147483629
noncomputable def fi (p : Pen) (m : Int) : Int := if p.b = 1 /\ 0 < p.a then p.a % m else nxt (nxt p.s + 7) / 64 % m
noncomputable def gA (p : Pen) (m : Int) : Pen := if p.b = 1 /\ 0 < p.a then ⟨p.a / m, p.b, p.s⟩ else ⟨p.a, p.b, nxt (nxt p.s + 7)⟩
theorem rC (p : Pen) {m : Int} (h : 0 < m) : 0 <= fi p m := by unfold fi; split <;> exact Int.emod_nonneg _ (by omega)
theorem oI (p : Pen) {m : Int} (h : 0 < m) : fi p m < m := by unfold fi; split <;> exact Int.emod_lt_of_pos _ h
@[simp] theorem FZ {x : Int} {h : Hh} : eQ [.int x] h = .ok (.int (nxt x)) h := by
  have h1 : 0 <= (x + 7919) % 2147483647 := Int.emod_nonneg _ (by decide)
  have h2 : (x + 7919) % 2147483647 < 2147483647 := Int.emod_lt_of_pos _ (by decide)
  have s1 : sml ((x + 7919) % 2147483647) = true := p9 (by omega) (by omega)
  have s2 : sml 48271 = true := by decide +kernel
  simp [eQ, bF, s1, s2, nxt]
theorem yb {p : Pen} {m : Int} {h : Hh} {n : Nat} (e : aF h n = some (cF p)) (hm : 0 < m) (hm2 : m <= 10 ^ 20) : aD [.ref n, .int m] h = .ok (.int (fi p m)) (h.set n (.lst (cF (gA p m)))) := by
  have s1 : sml m = true := p9 (by omega) (by omega)
  have s2 : sml 64 = true := by decide +kernel
  have i2 : ∀ (x y z : Int) (h : Hh), ixK [D.int x, .int y, .int z] 2 h = .ok (.int z) h := fun _ _ _ _ => rfl
  have n0 : ixN (cF p).length 0 = some 0 := rfl
  have n2 : ixN (cF p).length 2 = some 2 := rfl
  by_cases c : p.b = 1
  · by_cases c2 : 0 < p.a
    · simp [aD, bF, oM e, c, c2, hm, s1, mW e n0, fi, gA]
    · simp [aD, bF, oM e, c, c2, i2, mW e n2, oM (qN e), s1, s2, hm, fi, gA]
  · simp [aD, bF, oM e, c, i2, mW e n2, oM (qN e), s1, s2, hm, fi, gA]
@[simp] theorem m9 {p : Pen} {m : Int} {h t : Hh} (hm : 0 < m /\ m <= 10 ^ 20) : aD [.ref h.length, .int m] (h ++ .lst (cF p) :: t) = .ok (.int (fi p m)) (h ++ .lst (cF (gA p m)) :: t) := by
  rw [yb fE hm.1 hm.2, kU]
noncomputable def sC (c : Int) : Pen := ⟨max c (0 - c), if max c (0 - c) ≥ 10 ^ 18 then 1 else 0, max c (0 - c) % 1000003⟩
@[simp] theorem Gj {c : Int} {h : Hh} : cH [.int c] h = .ok (.ref h.length) (h ++ [.lst (cF (sC c))]) := by
  have s1 : sml 10 = true := by decide +kernel
  simp [cH, bF, s1, sC]
@[simp] theorem FQ {ns : List Int} {h : Hh} : b_ [.scr (ns.map D.int), .int 0] h = .ok (.int (ns.headD 0)) h := by
  cases ns with
  | nil => simp [b_, bF]
  | cons c r => simp [b_, bF]
@[simp] theorem EM {i : Int} {h : Hh} : gp [.int i] h = .ok (.bl true) h := by simp [gp, bF]
@[simp] theorem Eh {i a b : Int} {h : Hh} : bS [.int i, .int a, .int b] h = .ok (.bl (decide (a <= i /\ i <= b))) h := by
  by_cases z : a <= i <;> simp [bS, bF, z]
@[simp] theorem zc {i a b : Int} {h : Hh} (hi : a <= i /\ i <= b) : bG [.int i, .int a, .int b] h = .ok .non h := by
  simp [bG, bF, hi]
structure Ord (n : Nat) (xs : List Int) : Prop where
  len : xs.length = n
  nd : xs.Nodup
  lo : ∀ x ∈ xs, 0 <= x
  hi : ∀ x ∈ xs, x < n
noncomputable def eV (lo : Int) (n : Nat) : List Int := (List.range n).map fun (i : Nat) => lo + i
theorem qU (lo : Int) (n : Nat) : cA lo n = (eV lo n).map D.int := by simp [cA, eV, List.map_map]
theorem nA (lo : Int) (n : Nat) : (eV lo n).length = n := by simp [eV]
theorem g9 (n : Nat) : Ord n (eV 0 n) := by
  refine ⟨nA _ _, ?_, ?_, ?_⟩
  · unfold eV List.Nodup
    rw [List.pairwise_map]
    exact List.Pairwise.imp (fun {a b} h e => h (by omega)) List.nodup_range
  · intro x hx; simp [eV] at hx; omega
  · intro x hx; simp [eV] at hx; omega
noncomputable def gF (s : Pen × List Int) (_ : Nat) : Pen × List Int := (gA s.1 s.2.length, s.2.eraseIdx (fi s.1 s.2.length).toNat)
noncomputable def i_ (s : Pen × List Int) (_ : Nat) : Int := gI s.2 (fi s.1 s.2.length).toNat
noncomputable def qY (p : Pen) (k : Nat) : (Pen × List Int) × List Int := (List.range k).foldl (fun a x => (gF a.1 x, a.2 ++ [i_ a.1 x])) ((p, eV 0 k), [])
noncomputable def oY (p : Pen) (k : Nat) : Pen := (qY p k).1.1
noncomputable def mw (p : Pen) (k : Nat) : List Int := (qY p k).2
theorem qp {σ X β : Type} (f : σ -> X -> σ) (g : σ -> X -> β) : ∀ (xs : List X) (s : σ) (o : List β), (xs.foldl (fun a x => (f a.1 x, a.2 ++ [g a.1 x])) (s, o)).1 = xs.foldl f s
  | [], _, _ => rfl
  | x :: xs, s, o => by rw [List.foldl_cons, List.foldl_cons]; exact qp f g xs _ _
theorem getElem_erase {X : Type} : ∀ {l : List X} {n : Nat} (h : n < l.length), (l[n] :: l.eraseIdx n).Perm l
  | x :: l, 0, _ => by simp
  | x :: l, n + 1, h => by
    simp only [List.getElem_cons_succ, List.eraseIdx_cons_succ]
    exact (List.Perm.swap _ _ _).trans (List.Perm.cons x (getElem_erase (by simpa using h)))
theorem Bi (p : Pen) (k : Nat) : ∀ j, j <= k -> ∀ a, a = (List.range j).foldl (fun a x => (gF a.1 x, a.2 ++ [i_ a.1 x])) ((p, eV 0 k), []) -> a.1.2.length = k - j /\ a.2.length = j /\ (a.2 ++ a.1.2).Perm (eV 0 k) := by
  intro j
  induction j with
  | zero => intro _ a e; subst e; simp [nA]
  | succ j ih =>
    intro hj a e
    rw [List.range_succ, List.foldl_append] at e
    generalize hb : (List.range j).foldl (fun a x => (gF a.1 x, a.2 ++ [i_ a.1 x])) ((p, eV 0 k), []) = b at e
    obtain ⟨l1, l2, pm⟩ := ih (by omega) b hb.symm
    subst e
    simp only [List.foldl_cons, List.foldl_nil, gF, i_]
    have hp : (0 : Int) < (b.1.2.length : Nat) := by omega
    have d0 := rC b.1.1 hp
    have d1 := oI b.1.1 hp
    generalize fi b.1.1 (b.1.2.length : Nat) = d at d0 d1
    have hd : d.toNat < b.1.2.length := by omega
    refine ⟨by rw [List.length_eraseIdx, if_pos hd]; omega, by simp [l2], ?_⟩
    refine List.Perm.trans ?_ pm
    rw [List.append_assoc]
    refine List.Perm.append_left _ ?_
    rw [dm hd]
    exact getElem_erase hd
theorem zm (p : Pen) (k : Nat) : Ord k (mw p k) := by
  obtain ⟨l1, l2, pm⟩ := Bi p k k (Nat.le_refl _) _ rfl
  have e : (qY p k).1.2 = [] := List.eq_nil_of_length_eq_zero (by unfold qY; omega)
  have pm' : (mw p k).Perm (eV 0 k) := by
    unfold mw
    have : (qY p k).2 ++ (qY p k).1.2 = (qY p k).2 := by rw [e, List.append_nil]
    rw [<- this]; exact pm
  have o := g9 k
  exact ⟨by rw [pm'.length_eq, o.len], pm'.nodup_iff.mpr o.nd, fun x hx => o.lo x (pm'.mem_iff.mp hx), fun x hx => o.hi x (pm'.mem_iff.mp hx)⟩
theorem Ez {n k : Nat} {ds : List D} {i : Int} {d : D} {h : Hh} (e : aF h n = some ds) (e2 : ixN ds.length i = some k) (e3 : ds[k]? = some d) (hl : ds.length <= 1000000) : tT (.ref n) [.int i] h = .ok d (h.set n (.lst (ds.eraseIdx k))) := by delta tT; dsimp only; rw [e]; dsimp only; rw [e2]; dsimp only; rw [e3]; exact if_pos hl
theorem kS {X Y : Type} (f : X -> Y) : ∀ (xs : List X) (k : Nat), (xs.map f).eraseIdx k = (xs.eraseIdx k).map f
  | [], _ => rfl
  | _ :: _, 0 => rfl
  | x :: xs, k + 1 => by simp [kS f xs k]
theorem AJ {p : Pen} {k : Nat} {h : Hh} {n : Nat} (e : aF h n = some (cF p)) (w : Wf h) (hk : k <= 1000) : cG [.ref n, .int k] h = .ok (.tup ((mw p k).map D.int)) (h.set n (.lst (cF (oY p k)))) := by
  have hn := uF e
  have z1 : k <= 1000000 := by omega
  have st : ∀ (s : Pen × List Int) (x : Nat) (r : List Nat), (s.2.length = (x :: r).length /\ (x :: r).length <= k) -> ((gF s x).2.length = r.length /\ r.length <= k) ∧
      (jk tT (ag 1) (aa (ai aD (aa (ag 2) (aa (ai ck (aa (ag 1) ak)) ak))) ak)) [some (D.int (0 + (x : Int))), some (.ref h.length), some (.ref n)] (h.set n (.lst (cF s.1)) ++ [.lst (s.2.map D.int)]) = .ok (D.int (i_ s x)) (h.set n (.lst (cF (gF s x).1)) ++ [.lst ((gF s x).2.map D.int)]) := by
    intro s x r ⟨hs, hr⟩
    simp only [List.length_cons] at hs hr
    have hp : (0 : Int) < (s.2.length : Nat) := by omega
    have hp2 : ((s.2.length : Nat) : Int) <= 10 ^ 20 := by omega
    have d0 := rC s.1 hp
    have d1 := oI s.1 hp
    have hd : (fi s.1 s.2.length).toNat < s.2.length := by omega
    refine ⟨⟨by simp only [gF]; rw [List.length_eraseIdx, if_pos hd]; omega, by omega⟩, ?_⟩
    have hL : (h.set n (.lst (cF s.1))).length = h.length := List.length_set
    have e1 : aF (h.set n (.lst (cF s.1)) ++ [.lst (s.2.map D.int)]) n = some (cF s.1) := Ad (qN e)
    have e2 : aF (h.set n (.lst (cF s.1)) ++ [.lst (s.2.map D.int)]) h.length = some (s.2.map D.int) := by rw [<- hL]; exact fE
    have e3 : (h.set n (.lst (cF s.1)) ++ [O.lst (s.2.map D.int)]).set n (.lst (cF (gA s.1 s.2.length))) = h.set n (.lst (cF (gA s.1 s.2.length))) ++ [.lst (s.2.map D.int)] := by rw [AS (by omega), List.set_set]
    have hL' : (h.set n (.lst (cF (gA s.1 s.2.length)))).length = h.length := List.length_set
    have e4 : aF (h.set n (.lst (cF (gA s.1 s.2.length))) ++ [.lst (s.2.map D.int)]) h.length = some (s.2.map D.int) := by rw [<- hL']; exact fE
    have e5 : (s.2.map D.int)[(fi s.1 s.2.length).toNat]? = some (.int (i_ s x)) := by
      rw [List.getElem?_map, List.getElem?_eq_getElem hd]; simp [i_, dm hd]
    have e6 : ixN (s.2.map D.int).length (fi s.1 s.2.length) = some (fi s.1 s.2.length).toNat := by rw [List.length_map]; exact vR (by omega) hd
    simp only [As, Cv, BN, fF, xr e2, if_true, B9, CT, Ds, BO e2, List.length_map, yb e1 hp hp2, e3, Ez e4 e6 e5 (by rw [List.length_map]; omega)]
    rw [<- hL', kU, kS]
    rfl
  obtain ⟨ys, q1, q2, q3⟩ := pV (te := jk tT (ag 1) (aa (ai aD (aa (ag 2) (aa (ai ck (aa (ag 1) ak)) ak))) ak)) (ee := fun d => [some d, some (.ref h.length), some (.ref n)])
    (fun (s : Pen × List Int) => h.set n (.lst (cF s.1)) ++ [.lst (s.2.map D.int)]) (fun (i : Nat) => D.int (0 + i)) gF (fun s x => D.int (i_ s x)) (fun r s => s.2.length = r.length /\ r.length <= k) st (List.range k) (p, eV 0 k) ⟨by simp [nA], by simp⟩
  have q1' : cL tt1 (jk tT (ag 1) (aa (ai aD (aa (ag 2) (aa (ai ck (aa (ag 1) ak)) ak))) ak)) (fun d => [some d, some (.ref h.length), some (.ref n)]) (cA 0 k) (h ++ [.lst (cA 0 k)]) = .ok ((mw p k).map D.int) (h.set n (.lst (cF (oY p k))) ++ [.lst []]) := by
    have a1 : h.set n (.lst (cF p)) = h := xT e
    have a2 : ((List.range k).foldl gF (p, eV 0 k)).2 = [] := List.eq_nil_of_length_eq_zero q2.1
    have a3 : ((List.range k).foldl gF (p, eV 0 k)).1 = oY p k := by unfold oY qY; rw [qp]
    have a4 : ys = (mw p k).map D.int := by
      rw [q3]
      unfold mw qY
      have key : ∀ (xs : List Nat) (s : Pen × List Int) (o : List Int), (xs.foldl (fun (a : (Pen × List Int) × List D) x => (gF a.1 x, a.2 ++ [D.int (i_ a.1 x)])) (s, o.map D.int)).2 = ((xs.foldl (fun (a : (Pen × List Int) × List Int) x => (gF a.1 x, a.2 ++ [i_ a.1 x])) (s, o)).2).map D.int := by
        intro xs
        induction xs with
        | nil => intro s o; rfl
        | cons x xs ih =>
          intro s o
          rw [List.foldl_cons, List.foldl_cons]
          have := ih (gF s x) (o ++ [i_ s x])
          simpa using this
      exact key _ _ []
    simp only [a1, a2, a3, a4, List.map_nil] at q1
    rw [<- qU] at q1
    exact q1
  have hL : (h.set n (.lst (cF (oY p k)))).length = h.length := List.length_set
  have w' : Wf (h.set n (.lst (cF (oY p k)))) := Ct w rfl
  have ex : eZ h (.tup ((mw p k).map D.int)) (h.set n (.lst (cF (oY p k))) ++ [.lst []]) = .ok (.tup ((mw p k).map D.int)) (h.set n (.lst (cF (oY p k)))) := by
    have := hX (h := h.set n (.lst (cF (oY p k)))) (t := [.lst []]) (d := .tup ((mw p k).map D.int)) w' (by simp)
    unfold eZ at this ⊢
    rw [hL] at this
    exact this
  have hk6 : k <= 1000000 := by omega
  simp [cG, bF, z1, iR, q1', ex, hk6]
theorem Cp {n : Nat} {xs : List Int} {h : Hh} (o : Ord n xs) (h1 : 1 <= n) (h2 : n <= 20) (w : Wf h) : e8 [.tup (xs.map D.int)] h = .ok (.bl true) h := by
  have hl := o.len
  obtain ⟨q, _⟩ := ng (tg := gN 1) (body := dQ (iL (aC mN (ai bS (aa (ag 1) (aa (cC (.int 0)) (aa (ar eT (ai ck (aa (ag 0) ak)) (cC (.int 1))) ak)))))) (bH (cC (.bl false))) bU)
    (fun (s : Option D) => [some (.tup (xs.map D.int)), s]) (fun _ => h) D.int (fun s x => some (.int x)) (fun r s => ∀ x ∈ r, 0 <= x /\ x < n) (fun s x r hr => ⟨fun y hy => hr y (List.mem_cons_of_mem _ hy), .inl (by
      have := hr x List.mem_cons_self
      have z : 0 <= x /\ x <= ↑xs.length - 1 := by omega
      simp [z])⟩) xs none (fun x hx => ⟨o.lo x hx, o.hi x hx⟩)
  have c1 : (1 : Int) <= xs.length := by omega
  have c2 : (xs.length : Int) <= 20 := by omega
  have c3 : xs.length <= 4000 := by omega
  have c4 := pT o.nd
  simp [e8, bF, c1, c2, q, c3, c4]
  exact hX w rfl
theorem k_ {n : Nat} {xs : List Int} {h : Hh} (o : Ord n xs) (h1 : 1 <= n) (h2 : n <= 20) (w : Wf h) : bD [.tup (xs.map D.int)] h = .ok .non h := by
  simp [bD, bF, Cp o h1 h2 w]
noncomputable def pw {X : Type} (xs : List X) (lo hi : Option Int) : List X := (xs.drop (HT.sIx xs.length 0 lo)).take (HT.sIx xs.length xs.length hi - HT.sIx xs.length 0 lo)
theorem oU {X : Type} (f : X -> D) (xs : List X) (lo hi : Option Int) : cutD (xs.map f) lo hi = (pw xs lo hi).map f := by
  unfold cutD pw
  rw [List.length_map, List.map_take, List.map_drop]
theorem vi {X : Type} (xs : List X) (k : Nat) : pw xs none (some (k : Int)) = xs.take k := by
  unfold pw
  rw [HT.yM, HT.Bc]
  simp
theorem vV (i : Int) : ∀ ns : List Int, ((ns.map D.int).any fun d => eqF d (.int i)) = ns.any (· == i)
  | [] => rfl
  | n :: r => by rw [List.map_cons, List.any_cons, List.any_cons, vV i r]; rfl
theorem wC (ns : List Int) : (ns.map D.int).all fQ = true := by simp [fQ]
@[simp] theorem Gi {neg : Bool} {i : Int} {ns : List Int} {h : Hh} : dIn neg (.int i) (.tup (ns.map D.int)) h = .ok (.bl (if neg then !(ns.any (· == i)) else ns.any (· == i))) h := by
  simp only [dIn, iN, fQ, wC, and_self, if_true, vV]
noncomputable def qX (xs : List Int) : List Nat := (List.range (xs.length - 1)).filter fun i => decide (gI xs (i + 1) < gI xs i)
noncomputable def aK (xs : List Int) : List Int := (qX xs).map fun (i : Nat) => (i : Int)
theorem wB {xs : List Int} {h : Hh} {d : D} (hd : ∀ (i : Int), dIx d (.int i) h = ixK (xs.map D.int) i h) : cL (aC asB (ar dGt (ar dIx (ag 1) (ag 0)) (ar dIx (ag 1) (ar (dG bh) (ag 0) (cC (.int 1)))))) (ag 0) (fun x => [some x, some d]) (cA 0 (xs.length - 1)) h = .ok ((aK xs).map D.int) h := by
  rw [yy (fun i => decide (gI xs (i + 1) < gI xs i)) (fun i => D.int i)]
  · simp [aK, qX, List.map_map]
  · intro i hi
    have e1 : ixK (xs.map D.int) (i : Int) h = .ok (.int (gI xs i)) h := kL rfl (by omega)
    have e2 : ixK (xs.map D.int) ((i : Int) + 1) h = .ok (.int (gI xs (i + 1))) h := kL (by omega) (by omega)
    simp [hd, e1, e2]
theorem uV {h : Hh} (w : Wf h) (p : Pen) : Wf (h ++ [.lst (cF p)]) := w.app rfl
theorem vY (p : Pen) (m : Int) (h : 0 < m) : ∃ k : Nat, fi p m = (k : Int) /\ (k : Int) < m := by
  have h0 := rC p h
  have h1 := oI p h
  exact ⟨(fi p m).toNat, by omega, by omega⟩
theorem wo (ns : List Int) (lo hi : Option Int) : cutD (ns.map D.int) lo hi = (pw ns lo hi).map D.int := oU _ _ _ _
theorem Az {X : Type} (xs : List X) (lo hi : Option Int) : (pw xs lo hi).length <= xs.length := by
  unfold pw; rw [List.length_take, List.length_drop]; omega
theorem xC {p : Pen} {k : Nat} {h : Hh} (w : Wf h) (hk : k <= 1000) : cG [.ref h.length, .int k] (h ++ [.lst (cF p)]) = .ok (.tup ((mw p k).map D.int)) (h ++ [.lst (cF (oY p k))]) := by
  rw [AJ fE (uV w p) hk, kU]
noncomputable def sg (f : Nat -> Int) (n : Nat) : Int := ((List.range n).map f).sum
theorem yX (f : Nat -> Int) : sg f 0 = 0 := rfl
theorem zA (l : List Int) (x : Int) : (l ++ [x]).sum = l.sum + x := by
  induction l with
  | nil => simp
  | cons a l ih => simp only [List.cons_append, List.sum_cons, ih]; omega
theorem sy (f : Nat -> Int) (n : Nat) : sg f (n + 1) = sg f n + f n := by
  unfold sg
  rw [List.range_succ, List.map_append]
  exact zA _ _
theorem vX {f : Nat -> Int} {n : Nat} (h : ∀ i, i < n -> f i = 0) : sg f n = 0 := by
  induction n with
  | zero => rfl
  | succ n ih => rw [sy, ih fun i hi => h i (by omega), h n (by omega)]; rfl
theorem rp (f : Nat -> Int) (p : Nat) : ∀ q, sg f (p + q) = sg f p + sg (fun i => f (p + i)) q
  | 0 => by simp [yX]
  | q + 1 => by rw [<- Nat.add_assoc, sy, rp f p q, sy]; omega
noncomputable def lss (r : Nat) (l : Int) : Int := if (r : Int) < l then 1 else 0
noncomputable def Rn : Nat -> Int -> Int -> Int
  | 0, _, f => if f = 0 then 1 else 0
  | m + 1, l, f => sg (fun r => Rn m r (f - lss r l)) (m + 1)
theorem ui (r : Nat) (l : Int) : 0 <= lss r l /\ lss r l <= 1 := by unfold lss; split <;> omega
theorem uL : ∀ (m : Nat) (l f : Int), f < 0 -> Rn m l f = 0
  | 0, l, f, h => if_neg (by omega)
  | m + 1, l, f, h => vX fun r _ => uL m r _ (by have := ui r l; omega)
theorem uz : ∀ (m : Nat) (l f : Int), (m : Int) < f -> Rn m l f = 0
  | 0, l, f, h => if_neg (by omega)
  | m + 1, l, f, h => vX fun r _ => uz m r _ (by have := ui r l; omega)
theorem u_ {f : Nat -> Int} {B : Nat} : ∀ {n : Nat}, (∀ i, i < n -> 0 <= f i /\ f i <= B) -> 0 <= sg f n /\ sg f n <= (n * B : Nat)
  | 0, _ => by simp [yX]
  | n + 1, h => by
    have ih := u_ (n := n) fun i hi => h i (by omega)
    have := h n (by omega)
    rw [sy, Nat.succ_mul]
    omega
noncomputable def wM : Nat -> Nat
  | 0 => 1
  | n + 1 => (n + 1) * wM n
theorem sN : ∀ (m : Nat) (l f : Int), 0 <= Rn m l f /\ Rn m l f <= wM m
  | 0, l, f => by unfold Rn wM; split <;> omega
  | m + 1, l, f => u_ fun r _ => sN m r _
theorem CO : ∀ m, m < 13 -> wM m <= 10 ^ 20 := by decide +kernel
noncomputable def dW (m : Nat) (l : Int) : List Int := (List.range (m + 1)).map fun (f : Nat) => Rn m l f
theorem i5 (m : Nat) (l : Int) : (dW m l).length = m + 1 := by simp [dW]
theorem qE {m : Nat} {l : Int} {f : Nat} (h : f <= m) : gI (dW m l) f = Rn m l f := by
  rw [dm (by rw [i5]; omega)]; simp [dW]
noncomputable def eR (m : Nat) : List (List Int) := (List.range (m + 1)).map fun (l : Nat) => dW m l
theorem tR (m : Nat) : (eR m).length = m + 1 := by simp [eR]
noncomputable def f1 (xs : List Int) : D := .frl (xs.map D.int)
noncomputable def f2 (xss : List (List Int)) : D := .frl (xss.map f1)
theorem BU {l : List Int} {i j : Nat} {v : Int} (hj : j < l.length) : gI (l.set i v) j = if i = j then v else gI l j := by
  rw [dm (by simpa using hj), dm hj, List.getElem_set]
theorem DT {xs ys : List Int} (h : xs.length = ys.length) (e : ∀ i, i < xs.length -> gI xs i = gI ys i) : xs = ys := by
  refine List.ext_getElem h fun i h1 h2 => ?_
  have := e i h1
  rwa [dm h1, dm h2] at this
theorem CD {n : Nat} {ns : List Int} {i : Int} {j : Nat} {h : Hh} (e : aF h n = some (ns.map D.int)) (hi : i = (j : Int)) (hj : j < ns.length) : xU (.ref n) (.int i) h = .ok (.int (gI ns j)) h := by
  have := kL (ns := ns) (h := h) hi hj
  delta xU; dsimp only; rw [oM e]; exact this
theorem Aw (L : List (List Int)) : f6 (L.map f1) = (List.range L.length).map fun (i : Nat) => D.tup [.int i, f1 (L.getD i [])] := by
  unfold f6
  rw [List.length_map]
  refine List.map_congr_left fun i hi => ?_
  have hi := List.mem_range.mp hi
  simp [hi]
noncomputable def RIB : MS := (q_ (ag 2) (ar (dG bh) (ag 6) (ag 5)) (ag 7))
noncomputable def ROB : MS := (aG (bB 5 (cIf (aC asB (ar dLt (ag 3) (ag 1))) (cC (.int 1)) (cC (.int 0)))) (fY (lE (ag 4)) (gT2 6 7) RIB))
theorem DM : cI = fun ds h => ((c_ 8 (aG (bB 2 (ar (sW tZ) (ai (lP bh) (aa (cC (.int 0)) ak)) (ar (dG bh) (ai ck (aa (ag 0) ak)) (cC (.int 1))))) (aG (fY (lE (ag 0)) (gT2 3 4) ROB) (bH (ag 2))))) ds h).bind (eZ h) := rfl
theorem zx {m i : Nat} {l : Int} {c : List Int} {h : Hh} {d0 d1 d3 d4 y6 y7 : Option D} (hc : c.length = m + 2) (hi : i <= m) (hm : m <= 20) : ∃ c' y6' y7', c'.length = m + 2 /\ (∀ f, f < m + 2 -> gI c' f = gI c f + Rn m i ((f : Int) - lss i l)) /\ ff (gT2 6 7) RIB (f6 ((dW m i).map D.int)) [d0, d1, some (.ref h.length), d3, d4, some (.int (lss i l)), y6, y7] (h ++ [.lst (c.map D.int)]) = .ok (.nx [d0, d1, some (.ref h.length), d3, d4, some (.int (lss i l)), y6', y7']) (h ++ [.lst (c'.map D.int)]) := by
  have l01 := ui i l
  obtain ⟨t, ht⟩ : ∃ t : Nat, lss i l = (t : Int) := ⟨(lss i l).toNat, by omega⟩
  have t1 : t <= 1 := by omega
  rw [ht, wZ, i5]
  obtain ⟨q, q2⟩ := vF (σ := List Int × Option D × Option D) (tg := gT2 6 7) (body := RIB) (fun (j : Nat) => D.tup [.int j, .int (gI (dW m i) j)]) (m + 1) (fun s => [d0, d1, some (.ref h.length), d3, d4, some (.int t), s.2.1, s.2.2]) (fun s => h ++ [.lst (s.1.map D.int)]) (fun s j => (s.1.set (j + t) (gI s.1 (j + t) + gI (dW m i) j), some (.int j), some (.int (gI (dW m i) j))))
    (fun j s => s.1.length = m + 2 /\ ∀ f, f < m + 2 -> gI s.1 f = gI c f + if (f : Int) - t < j then Rn m i ((f : Int) - t) else 0) (c, y6, y7) ⟨hc, fun f hf => by
      by_cases z : (f : Int) - t < ((0 : Nat) : Int)
      · rw [if_pos z, uL _ _ _ (by omega)]; simp
      · rw [if_neg z]; simp⟩ (fun j s hj ⟨sl, sv⟩ => by
      refine ⟨⟨by simp [sl], fun f hf => ?_⟩, .inl ?_⟩
      · dsimp only
        rw [BU (by omega)]
        by_cases e : j + t = f
        · subst e
          rw [if_pos rfl, sv _ hf, qE (by omega), if_neg (by omega), if_pos (by omega), show (((j + t : Nat) : Int)) - t = j by omega]
          omega
        · rw [if_neg e, sv f hf]
          by_cases z : (f : Int) - t < j
          · rw [if_pos z, if_pos (by omega)]
          · rw [if_neg z, if_neg (by omega)]
      · have ij : (j : Int) + (t : Int) = ((j + t : Nat) : Int) := by omega
        have x1 := CD (n := h.length) (ns := s.1) (i := ((j + t : Nat) : Int)) (j := j + t) (h := h ++ [.lst (s.1.map D.int)]) fE rfl (by omega)
        have n2 : ixN (s.1.map D.int).length ((j + t : Nat) : Int) = some (j + t) := by rw [List.length_map]; exact vR rfl (by omega)
        have st : ie (.ref h.length) (.int ((j + t : Nat) : Int)) (.int (gI s.1 (j + t) + gI (dW m i) j)) (h ++ [.lst (s.1.map D.int)]) = .ok () (h ++ [.lst ((s.1.set (j + t) (gI s.1 (j + t) + gI (dW m i) j)).map D.int)]) := by
          rw [mW fE n2, kU, List.map_set]
        generalize gI (dW m i) j = v at *
        generalize ((j + t : Nat) : Int) = w at *
        generalize j + t = w' at *
        simp [RIB, ij, x1, st])
  obtain ⟨sl, sv⟩ := q2
  exact ⟨_, _, _, sl, fun f hf => by
    rw [sv f hf]
    by_cases z : (f : Int) - t < ((m + 1 : Nat) : Int)
    · rw [if_pos z]
    · rw [if_neg z, uz _ _ _ (by omega)], q⟩
theorem A9 {m : Nat} {l : Int} {h : Hh} (hm : m <= 20) (w : Wf h) : cI [f2 (eR m), .int l] h = .ok (f1 (dW (m + 1) l)) h := by
  have key : ∀ (j i : Nat) (c : List Int) (y3 y4 y5 y6 y7 : Option D), i + j = m + 1 -> c.length = m + 2 -> (∀ f, f < m + 2 -> gI c f = sg (fun r => Rn m r ((f : Int) - lss r l)) i) -> ∃ c' z3 z4 z5 z6 z7, c'.length = m + 2 /\ (∀ f, f < m + 2 -> gI c' f = sg (fun r => Rn m r ((f : Int) - lss r l)) (m + 1)) ∧
      ff (gT2 3 4) ROB ((List.range' i j).map fun (i : Nat) => D.tup [.int i, f1 (dW m i)]) [some (f2 (eR m)), some (.int l), some (.ref h.length), y3, y4, y5, y6, y7] (h ++ [.lst (c.map D.int)]) = .ok (.nx [some (f2 (eR m)), some (.int l), some (.ref h.length), z3, z4, z5, z6, z7]) (h ++ [.lst (c'.map D.int)]) := by
    intro j
    induction j with
    | zero =>
      intro i c y3 y4 y5 y6 y7 e hc hv
      have : i = m + 1 := by omega
      subst this
      exact ⟨c, y3, y4, y5, y6, y7, hc, hv, rfl⟩
    | succ j ih =>
      intro i c y3 y4 y5 y6 y7 e hc hv
      obtain ⟨c1, z6, z7, l1, v1, q1⟩ := zx (m := m) (i := i) (l := l) (c := c) (h := h) (d0 := some (f2 (eR m))) (d1 := some (.int l)) (d3 := some (.int i)) (d4 := some (f1 (dW m i))) (y6 := y6) (y7 := y7) hc (by omega) hm
      obtain ⟨c', w3, w4, w5, w6, w7, lc, vc, qc⟩ := ih (i + 1) c1 (some (.int i)) (some (f1 (dW m i))) (some (.int (lss i l))) z6 z7 (by omega) l1 (fun f hf => by rw [v1 f hf, hv f hf, sy])
      refine ⟨c', w3, w4, w5, w6, w7, lc, vc, ?_⟩
      rw [List.range'_succ, List.map_cons, nX]
      have b : ROB [some (f2 (eR m)), some (.int l), some (.ref h.length), some (.int i), some (f1 (dW m i)), y5, y6, y7] (h ++ [.lst (c.map D.int)]) = .ok (.nx [some (f2 (eR m)), some (.int l), some (.ref h.length), some (.int i), some (f1 (dW m i)), some (.int (lss i l)), z6, z7]) (h ++ [.lst (c1.map D.int)]) := by
        have eE : tN (f1 (dW m i)) (h ++ [.lst (c.map D.int)]) = .ok (.snap (f6 ((dW m i).map D.int))) (h ++ [.lst (c.map D.int)]) := rfl
        by_cases z : (i : Int) < l
        · have le : lss i l = 1 := if_pos z
          rw [le] at q1 ⊢
          simp [ROB, z, eE, q1]
        · have le : lss i l = 0 := if_neg z
          rw [le] at q1 ⊢
          simp [ROB, z, eE, q1]
      simp [b, qc]
  obtain ⟨c', z3, z4, z5, z6, z7, lc, vc, q⟩ := key (m + 1) 0 (List.replicate (m + 2) 0) none none none none none (by omega) (by simp) (fun f hf => by rw [yX, dm (by simpa using hf)]; simp)
  have ce : c' = dW (m + 1) l := DT (by rw [lc, i5]) fun f hf => by
    rw [lc] at hf
    rw [vc f hf, qE (by omega)]; rfl
  subst ce
  have en : tN (f2 (eR m)) (h ++ [.lst (List.replicate (m + 2) (.int 0))]) = .ok (.snap ((List.range' 0 (m + 1)).map fun (i : Nat) => D.tup [.int i, f1 (dW m i)])) (h ++ [.lst (List.replicate (m + 2) (.int 0))]) := by
    show R.ok (Src.snap (f6 ((eR m).map f1))) _ = _
    rw [Aw, tR, <- List.range_eq_range']
    congr 2
    refine List.map_congr_left fun i hi => ?_
    have hi := List.mem_range.mp hi
    simp [eR, hi]
  have ex := p8 (h := h) (ds := (dW (m + 1) l).map D.int) (t := []) w (by simp [deep])
  have ll : ck [f2 (eR m)] h = .ok (.int ((m + 1 : Nat) : Int)) h := by
    show R.ok (D.int (((eR m).map f1).length : Int)) h = _
    rw [List.length_map, tR]
  have z1 : (((m + 1 : Nat) : Int) + 1).toNat = m + 2 := by omega
  have z2 : m + 2 <= 1000000 := by omega
  have z3 : (((m + 1 : Nat) : Int) + 1).natAbs <= 1000000 := by omega
  have z4 : 1 <= (((m + 1 : Nat) : Int) + 1) := by omega
  rw [List.map_replicate] at q
  rw [DM]
  generalize f2 (eR m) = FT at *
  show _ = R.ok (D.frl ((dW (m + 1) l).map D.int)) h
  generalize (dW (m + 1) l).map D.int = W at *
  simp [-Int.natCast_add, bF, ll, z1, z2, z3, z4, en, q, ex]
noncomputable def rsD (k : Nat) : List D := (List.range (k + 1)).map fun j => f2 (eR j)
theorem Ek (k : Nat) : rsD (k + 1) = rsD k ++ [f2 (eR (k + 1))] := by simp [rsD, List.range_succ]
theorem qu (k : Nat) : (rsD k).length = k + 1 := by simp [rsD]
theorem Cz {k j : Nat} {i : Int} {h : Hh} (e : i = (j : Int)) (hj : j <= k) : ixK (rsD k) i h = .ok (f2 (eR j)) h := kW e (by rw [rsD, List.getElem?_map, List.getElem?_range (by omega)]; rfl)
theorem zL {k : Nat} {h : Hh} : ixK (rsD k) (-1) h = .ok (f2 (eR k)) h := by
  have e : ixN (rsD k).length (-1) = some k := by rw [qu]; unfold ixN; simp; omega
  unfold ixK atI
  rw [e]
  have : (rsD k)[k]? = some (f2 (eR k)) := by simp [rsD]
  simp [this]
noncomputable def RSB : MS := (fI (jk iG (ag 1) (aa (cW bh (iQ jo (aa (ar (dG bh) (ag 2) (cC (.int 1))) ak)) [1] tt1 (ai cI (aa (ar dIx (ag 1) (cUn lT (cC (.int 1)))) (aa (ag 0) ak)))) ak)))
theorem DR : eN = fun ds h => ((c_ 3 (aG (bB 1 (ai (lP tZ) (aa (ai (lP bh) (aa (ai (lP bh) (aa (cC (.int 1)) ak)) ak)) ak))) (aG (fY (iQ uZ (aa (cC (.int 1)) (aa (ar (dG bh) (ag 0) (cC (.int 1))) ak))) (gN 2) RSB) (bH (ag 1))))) ds h).bind (eZ h) := rfl
theorem sS {n : Nat} {h : Hh} (hn : n <= 12) (w : Wf h) : eN [.int n] h = .ok (.frl (rsD n)) h := by
  have low : ∀ k j, cz j (rsD k) = true := fun k j => lM fun d hd => by
    obtain ⟨i, _, rfl⟩ := List.mem_map.mp hd
    show cz j ((eR i).map f1) = true
    exact qq fun b => by show cz j (b.map D.int) = true; exact uI
  obtain ⟨q, e⟩ := xV (σ := Nat × Option D) (tg := gN 2) (body := RSB) 1 n (fun s => [some (.int n), some (.ref h.length), s.2]) (fun s => h ++ [.lst (rsD s.1)]) (fun s i => (i + 1, some (.int (1 + i)))) (fun i s => s.1 = i) (0, none) rfl (fun i s hi hs => ⟨rfl, .inl (by
      subst hs
      obtain ⟨i, y⟩ := s
      dsimp only at hi ⊢
      have c : cL tt1 (ai cI (aa (ar dIx (ag 1) (cUn lT (cC (.int 1)))) (aa (ag 0) ak))) (fun x => [some x, some (.ref h.length)]) (cA 0 (i + 2)) (h ++ [.lst (rsD i)]) = .ok ((eR (i + 1)).map f1) (h ++ [.lst (rsD i)]) := by
        have w2 : Wf (h ++ [.lst (rsD i)]) := w.app (by show cz _ _ = true; exact low i _)
        rw [wy (fun j => f1 (dW (i + 1) j)) (fun j hj => by
          have r := A9 (m := i) (l := (j : Int)) (h := h ++ [.lst (rsD i)]) (by omega) w2
          simp [zL, r]), eR, List.map_map]
        rfl
      have z1 : (1 + (i : Int) + 1).natAbs <= 1000000 := by omega
      have z2 : (1 + (i : Int) + 1).toNat = i + 2 := by omega
      have z3 : i + 2 <= 1000000 := by omega
      have z4 : (rsD i).length < 1000000 := by rw [qu]; omega
      rw [Ek]
      show _ = R.ok (Fl.nx [some (.int n), some (.ref h.length), some (.int (1 + i))]) (h ++ [.lst (rsD i ++ [.frl ((eR (i + 1)).map f1)])])
      generalize (eR (i + 1)).map f1 = W at *
      generalize rsD i = V at *
      simp [RSB, z1, z2, z3, z4, c])⟩)
  generalize List.foldl _ _ _ = s9 at q e
  obtain ⟨i9, y9⟩ := s9
  dsimp only at q e
  subst e
  have dp : (rsD i9).all (deep 7) = true := by
    rw [List.all_eq_true]
    intro d hd
    obtain ⟨j, _, rfl⟩ := List.mem_map.mp hd
    simp [f2, f1, deep, List.all_eq_true]
  have ex := p8 (h := h) (ds := rsD i9) (t := []) w dp
  have r0 : rsD 0 = [.frl [.frl [.int 1]]] := rfl
  rw [r0] at q
  have z1 : (i9 : Int) + 1 - 1 = i9 := by omega
  have z2 : i9 <= 1000000 := by omega
  have z3 : ((i9 : Int) + 1).natAbs <= 1000000 := by omega
  rw [DR]
  generalize rsD i9 = V at *
  simp [bF, z1, z2, z3, q, ex]
structure Beg (n : Nat) (xs : List Int) : Prop where
  len : xs.length <= n
  nd : xs.Nodup
  lo : ∀ x ∈ xs, 0 <= x
  hi : ∀ x ∈ xs, x < n
theorem Beg.nil (n : Nat) : Beg n [] := ⟨Nat.zero_le _, List.nodup_nil, fun _ h => (nomatch h), fun _ h => (nomatch h)⟩
theorem Ord.beg {n : Nat} {xs : List Int} (o : Ord n xs) : Beg n xs := ⟨Nat.le_of_eq o.len, o.nd, o.lo, o.hi⟩
theorem Beg.take {n : Nat} {xs : List Int} (o : Beg n xs) (k : Nat) : Beg n (xs.take k) :=
  ⟨Nat.le_trans (by rw [List.length_take]; exact Nat.min_le_right _ _) o.len, o.nd.sublist (List.take_sublist _ _), fun x hx => o.lo x (List.mem_of_mem_take hx), fun x hx => o.hi x (List.mem_of_mem_take hx)⟩
noncomputable def h9 (r : Int -> Bool) (l : List Int) : Nat := (l.filter r).length
theorem gY (r : Int -> Bool) (x : Int) (l : List Int) : h9 r (x :: l) = (if r x = true then 1 else 0) + h9 r l := by
  unfold h9; rw [List.filter_cons]; split <;> simp [Nat.add_comm]
theorem yp (r : Int -> Bool) (v : Int) : ∀ l : List Int, h9 (fun x => r x && decide (x < v + 1)) l = h9 (fun x => r x && decide (x < v)) l + h9 (fun x => r x && decide (x = v)) l
  | [] => rfl
  | x :: l => by
    rw [gY, gY, gY, yp r v l]
    cases h : r x <;> simp
    by_cases a : x < v
    · have b : x < v + 1 := by omega
      have c : ¬ x = v := by omega
      simp [a, b, c]; omega
    · by_cases c : x = v
      · subst c
        have b : x < x + 1 := by omega
        simp [b]; omega
      · have b : ¬ x < v + 1 := by omega
        simp [a, b, c]
theorem uD {r : Int -> Bool} : ∀ {l : List Int}, (∀ x ∈ l, r x = false) -> h9 r l = 0
  | [], _ => rfl
  | x :: l, h => by rw [gY, h x List.mem_cons_self, uD fun y hy => h y (List.mem_cons_of_mem _ hy)]; rfl
theorem uv {r : Int -> Bool} {v : Int} : ∀ {l : List Int}, l.Nodup -> h9 (fun x => r x && decide (x = v)) l = if v ∈ l /\ r v = true then 1 else 0
  | [], _ => by simp [h9]
  | x :: l, nd => by
    obtain ⟨n1, n2⟩ := List.nodup_cons.mp nd
    rw [gY, uv n2]
    by_cases c : x = v
    · subst c
      cases h : r x <;> simp [n1, h]
    · have c' : ¬ v = x := fun z => c z.symm
      simp [c, c']
theorem sj {n : Nat} {xs : List Int} (b : Beg n xs) : ∀ v : Nat, v <= n -> h9 (fun x => !(xs.any (· == x)) && decide (x < (v : Int))) (eV 0 n) + h9 (fun x => true && decide (x < (v : Int))) xs = v
  | 0, _ => by
    rw [uD, uD]
    · intro x hx; have := b.lo x hx; simp; omega
    · intro x hx; have := (g9 n).lo x hx; simp; omega
  | v + 1, hv => by
    have ih := sj b v (by omega)
    have e : ((v + 1 : Nat) : Int) = (v : Int) + 1 := by omega
    rw [e, yp, yp, uv (g9 n).nd, uv b.nd]
    have m : (v : Int) ∈ eV 0 n := List.mem_map.mpr ⟨v, List.mem_range.mpr (by omega), by omega⟩
    by_cases c : (v : Int) ∈ xs
    · have a : xs.any (· == (v : Int)) = true := List.any_eq_true.mpr ⟨_, c, by simp⟩
      simp only [m, a, c, Bool.not_true, and_true, Bool.false_eq_true, and_false, if_false, if_true]
      omega
    · have a : xs.any (· == (v : Int)) = false := by
        rw [List.any_eq_false]; intro x hx z; exact c (beq_iff_eq.mp z ▸ hx)
      simp only [m, a, c, Bool.not_false, and_self, if_true, false_and, if_false]
      omega
noncomputable def bO (xs : List Int) : Int := gI xs (xs.length - 1)
noncomputable def lwI (xs : List Int) : Int := if xs.length = 0 then 0 else bO xs - ((xs.filter fun x => decide (x < bO xs)).length : Int)
noncomputable def aB (n : Nat) (xs : List Int) : List Int := (eV 0 n).filter fun x => !(xs.any (· == x))
theorem vZ {xs : List Int} (h : xs.length ≠ 0) : bO xs ∈ xs := by
  unfold bO; rw [dm (by omega)]; exact List.getElem_mem _
theorem dO {n : Nat} {xs : List Int} (b : Beg n xs) : (aB n xs).length = n - xs.length := by
  have := sj b n (Nat.le_refl _)
  have e1 : h9 (fun x => !(xs.any (· == x)) && decide (x < (n : Int))) (eV 0 n) = (aB n xs).length := by
    unfold h9 aB
    rw [List.filter_congr]
    intro x hx; have := (g9 n).hi x hx; simp [this]
  have e2 : h9 (fun x => true && decide (x < (n : Int))) xs = xs.length := by
    unfold h9
    rw [List.filter_eq_self.mpr]
    intro x hx; have := b.hi x hx; simp [this]
  omega
theorem jr {n : Nat} {xs : List Int} (b : Beg n xs) (h : xs.length ≠ 0) : (((aB n xs).filter fun x => decide (x < bO xs)).length : Int) = lwI xs := by
  have m := vZ h
  have h0 := b.lo _ m
  have h1 := b.hi _ m
  have := sj b (bO xs).toNat (by omega)
  rw [show (((bO xs).toNat : Nat) : Int) = bO xs by omega] at this
  have e1 : h9 (fun x => !(xs.any (· == x)) && decide (x < bO xs)) (eV 0 n) = ((aB n xs).filter fun x => decide (x < bO xs)).length := by
    unfold h9 aB
    rw [List.filter_filter]
    congr 2
    funext x
    exact Bool.and_comm _ _
  have e2 : h9 (fun x => true && decide (x < bO xs)) xs = (xs.filter fun x => decide (x < bO xs)).length := by
    unfold h9; simp
  unfold lwI
  rw [if_neg h]
  omega
theorem EH {n : Nat} {xs : List Int} (b : Beg n xs) : 0 <= lwI xs /\ lwI xs <= ((n - xs.length : Nat) : Int) := by
  by_cases h : xs.length = 0
  · unfold lwI; rw [if_pos h]; omega
  · rw [<- jr b h, <- dO b]
    have := List.length_filter_le (fun x => decide (x < bO xs)) (aB n xs)
    omega
theorem Beg.snoc {n : Nat} {xs : List Int} {x : Int} (b : Beg n xs) (h : x ∈ aB n xs) : Beg n (xs ++ [x]) := by
  obtain ⟨h1, h2⟩ := List.mem_filter.mp h
  have nx : x ∉ xs := fun z => by
    have : xs.any (· == x) = true := List.any_eq_true.mpr ⟨_, z, by simp⟩
    rw [this] at h2; cases h2
  have l := dO b
  have lp := List.length_pos_of_mem h
  refine ⟨by rw [List.length_append]; show xs.length + 1 <= n; omega, List.nodup_append.mpr ⟨b.nd, List.nodup_cons.mpr ⟨by simp, List.nodup_nil⟩, fun a ha c hc => ?_⟩, fun y hy => ?_, fun y hy => ?_⟩
  · simp at hc; subst hc; exact fun z => nx (z ▸ ha)
  · rcases List.mem_append.mp hy with z | z
    · exact b.lo y z
    · simp at z; subst z; exact (g9 n).lo _ h1
  · rcases List.mem_append.mp hy with z | z
    · exact b.hi y z
    · simp at z; subst z; exact (g9 n).hi _ h1
noncomputable def bcV (n : Nat) (k : Int) (xs : List Int) : Int := Rn (n - xs.length) (lwI xs) (k - ((aK xs).length : Int))
theorem D4 {n : Nat} {k : Int} {xs : List Int} : 0 <= bcV n k xs := (sN _ _ _).1
theorem yP {xs : List Int} {h : Hh} (h1 : xs.length ≠ 0) : ixK (xs.map D.int) (-1) h = .ok (.int (bO xs)) h := by
  have e : ixN (xs.map D.int).length (-1) = some (xs.length - 1) := by rw [List.length_map]; unfold ixN; simp; omega
  unfold ixK atI bO
  rw [e]
  simp [List.getElem?_eq_getElem (show xs.length - 1 < xs.length by omega), dm (show xs.length - 1 < xs.length by omega)]
theorem yQ {xs : List Int} {h : Hh} (hl : xs.length <= 1000) : dU [.tup (xs.map D.int)] h = .ok (.int (lwI xs)) h := by
  unfold lwI
  by_cases c : xs.length = 0
  · have : xs = [] := List.eq_nil_of_length_eq_zero c
    subst this
    simp [dU, bF]
  · rw [if_neg c]
    have c' : ¬ (xs.length : Int) = 0 := by omega
    have ix := fun H : Hh => yP (h := H) c
    have q : cL (aC asB (ar dLt (ag 0) (ar dIx (ag 1) (cUn lT (cC (.int 1)))))) (ag 0) (fun x => [some x, some (.tup (xs.map D.int))]) (xs.map D.int) h = .ok ((xs.filter fun x => decide (x < bO xs)).map D.int) h :=
      comp_map D.int (fun x => decide (x < bO xs)) D.int xs fun x hx => ⟨by simp [ix], fun _ => by simp⟩
    have c0 : ¬ xs = [] := fun z => c (by rw [z]; rfl)
    have z6 : xs.length <= 1000000 := by omega
    simp [dU, bF, c, c', c0, ix, q, z6]
theorem kX {xs : List Int} {h : Hh} (hl : xs.length <= 1000) : cb [.tup (xs.map D.int)] h = .ok (.tup ((aK xs).map D.int)) h := by
  by_cases c : xs.length = 0
  · have : xs = [] := List.eq_nil_of_length_eq_zero c
    subst this
    kernel_rfl
  · have z1 : ((xs.length : Int) - 1).natAbs <= 1000000 := by omega
    have z2 : ((xs.length : Int) - 1).toNat = xs.length - 1 := by omega
    have z3 : xs.length - 1 <= 1000000 := by omega
    have q := wB (xs := xs) (h := h) (d := .tup (xs.map D.int)) (fun i => DZ)
    simp [cb, bF, z1, z2, z3, q]
theorem BX {n : Nat} {k : Int} {xs : List Int} {h : Hh} (b : Beg n xs) (hn : n <= 12) : aP [.frl (rsD n), .int k, .tup (xs.map D.int)] h = .ok (.int (bcV n k xs)) h := by
  unfold bcV
  have bl := b.len
  obtain ⟨l0, l1⟩ := EH b
  obtain ⟨m, hm⟩ : ∃ m, n - xs.length = m := ⟨_, rfl⟩
  rw [hm] at l1 ⊢
  have lo := yQ (xs := xs) (h := h) (by omega)
  have fa := kX (xs := xs) (h := h) (by omega)
  have r1 : ixK (rsD n) ((n : Int) - xs.length) h = .ok (f2 (eR m)) h := Cz (by omega) (by omega)
  generalize lwI xs = a at *
  have r2 : dIx (f2 (eR m)) (.int a) h = .ok (f1 (dW m a)) h := by
    show ixK ((eR m).map f1) a h = _
    refine kW (j := a.toNat) (by omega) ?_
    rw [List.getElem?_map, eR, List.getElem?_map, List.getElem?_range (by omega)]
    show some (f1 (dW m ((a.toNat : Nat) : Int))) = _
    rw [show ((a.toNat : Nat) : Int) = a by omega]
  have ll : ck [f1 (dW m a)] h = .ok (.int ((m : Int) + 1)) h := by
    show R.ok (D.int (((dW m a).map D.int).length : Int)) h = _
    rw [List.length_map, i5]
    rfl
  have lr : (rsD n).length = n + 1 := qu n
  have zn : ((n + 1 : Nat) : Int) - 1 - xs.length = (n : Int) - xs.length := by omega
  obtain ⟨F, hF⟩ : ∃ F : Int, k - ((aK xs).length : Int) = F := ⟨_, rfl⟩
  rw [hF]
  by_cases c : 0 <= F /\ F < (m : Int) + 1
  · have ix : dIx (f1 (dW m a)) (.int F) h = .ok (.int (Rn m a F)) h := by
      show ixK ((dW m a).map D.int) F h = _
      rw [kL (j := F.toNat) (by omega) (by rw [i5]; omega), qE (by omega), show ((F.toNat : Nat) : Int) = F by omega]
    generalize f1 (dW m a) = W at *
    generalize f2 (eR m) = V at *
    simp [-Int.natCast_add, aP, bF, lr, zn, r1, lo, r2, fa, hF, ll, c.1, c.2, ix]
  · have e0 : Rn m a F = 0 := by
      by_cases c0 : 0 <= F
      · exact uz _ _ _ (by omega)
      · exact uL _ _ _ (by omega)
    rw [e0]
    generalize f1 (dW m a) = W at *
    generalize f2 (eR m) = V at *
    by_cases c0 : 0 <= F
    · have c1 : ¬ F < (m : Int) + 1 := fun z => c ⟨c0, z⟩
      simp [-Int.natCast_add, aP, bF, lr, zn, r1, lo, r2, fa, hF, ll, c0, c1]
    · simp [-Int.natCast_add, aP, bF, lr, zn, r1, lo, r2, fa, hF, ll, c0]
theorem ju {n : Nat} {k : Int} {h : Hh} (hn : n <= 12) (w : Wf h) : aV [.int n, .int k] h = .ok (.clo "begun_count" [.frl (rsD n), .int k]) h := by
  have r := sS (n := n) (h := h) hn w
  delta aV AV
  simp [r, uX]
theorem Aa {tab : Str -> Option (Nat × MF)} {f : ME} {a : MA} {env : En} {h : Hh} : eX tab f a env h = (f env h).bind fun d h1 => match d with
  | .clo x ds => match tab x with
    | some (np, m) => if ds.length + 1 = np then (a env h1).bind fun es h2 => m (ds ++ es) h2 else .bad
    | none => .bad
  | _ => .bad := rfl
noncomputable def nxI (n : Nat) (k : Int) (xs : List Int) : List Int := (aB n xs).filter fun x => decide (0 < bcV n k (xs ++ [x]))
noncomputable def tpl (xs : List Int) : D := .tup (xs.map D.int)
theorem pX {n : Nat} {xs : List Int} {h : Hh} (hl : xs.length <= 1000) : cL (aC asB (ar (dIn true) (ag 0) (ag 1))) (ar (dG bh) (ag 1) (ai hG (aa (ag 0) ak))) (fun x => [some x, some (.tup (xs.map D.int))]) (cA 0 n) h = .ok ((aB n xs).map fun x => tpl (xs ++ [x])) h := by
  rw [qU, comp_map D.int (fun x => !(xs.any (· == x))) (fun x => tpl (xs ++ [x])) (eV 0 n) fun x hx => ⟨by simp, fun _ => by
    have z : xs.length + 1 <= 1000000 := by omega
    simp [tpl, z]⟩]
  rfl
theorem yw {n : Nat} {k : Int} {xs : List Int} {h : Hh} (b : Beg n xs) (hn : n <= 12) : a_ [.int n, .tup (xs.map D.int), .clo "begun_count" [.frl (rsD n), .int k]] h = .ok (.frl ((nxI n k xs).map fun x => tpl (xs ++ [x]))) h := by
  have bl := b.len
  have q := pX (n := n) (xs := xs) (h := h) (by omega)
  have q2 : cL (aC asB (ar dGt (eX fS (ag 1) (aa (ag 0) ak)) (cC (.int 0)))) (ag 0) (fun x => [some x, some (.clo "begun_count" [.frl (rsD n), .int k])]) ((aB n xs).map fun x => tpl (xs ++ [x])) h = .ok ((nxI n k xs).map fun x => tpl (xs ++ [x])) h := by
    rw [comp_map (fun x => tpl (xs ++ [x])) (fun x => decide (0 < bcV n k (xs ++ [x]))) (fun x => tpl (xs ++ [x])) (aB n xs) fun x hx => ⟨by
      have e := BX (k := k) (h := h) (b.snoc hx) hn
      unfold tpl
      generalize rsD n = RN at *
      generalize (xs ++ [x]).map D.int = X at *
      simp [Aa, e], fun _ => by simp⟩]
    rfl
  have l1 : ((aB n xs).map fun x => tpl (xs ++ [x])).length <= 1000000 := by rw [List.length_map, dO b]; omega
  have z2 : (n : Int).natAbs <= 1000000 := by omega
  have z3 : n <= 1000000 := by omega
  generalize ((aB n xs).map fun x => tpl (xs ++ [x])) = W at *
  generalize ((nxI n k xs).map fun x => tpl (xs ++ [x])) = W2 at *
  generalize rsD n = RN at *
  generalize xs.map D.int = X at *
  simp [a_, bF, z2, z3, q, l1, q2]
theorem pM (k : Nat) (h : Hh) : ∀ xs ys : List Int, eqL (eqD (k + 1) h) (xs.map D.int) (ys.map D.int) = some (decide (xs = ys))
  | [], [] => rfl
  | [], y :: ys => rfl
  | x :: xs, [] => rfl
  | x :: xs, y :: ys => by
    have ih := pM k h xs ys
    have e1 : eqD (k + 1) h (.int x) (.int y) = some (x == y) := rfl
    simp only [List.map_cons, eqL, e1, ih]
    by_cases a : x = y <;> by_cases b : xs = ys <;> simp [a, b]
theorem vt {σ : Type} {tg : D -> En -> Hh -> R En} {body : MS} (enc : Nat -> D) (N : Nat) (E : σ -> En) (G : σ -> Hh) (I : Nat -> σ -> Prop)
    (st : ∀ i s, i < N -> I i s -> ∃ s', I (i + 1) s' /\ (tg (enc i) (E s) (G s)).bind body = .ok (.nx (E s')) (G s')) :
    ∀ (k i : Nat) (s : σ), i + k = N -> I i s -> ∃ s', ff tg body ((List.range' i k).map enc) (E s) (G s) = .ok (.nx (E s')) (G s') /\ I N s' := by
  intro k
  induction k with
  | zero =>
    intro i s e hi
    have : i = N := by omega
    subst this
    exact ⟨s, rfl, hi⟩
  | succ k ih =>
    intro i s e hi
    obtain ⟨s1, a, b⟩ := st i s (by omega) hi
    obtain ⟨s2, c, d⟩ := ih (i + 1) s1 (by omega) a
    refine ⟨s2, ?_, d⟩
    rw [List.range'_succ, List.map_cons, ff, <- cB, b]
    exact c
theorem uB {v : Int} : ∀ {L : List Int}, L.Pairwise (· < ·) -> ∀ (r : Nat) (hr : r < L.length), L[r] < v ↔ r < (L.filter fun x => decide (x < v)).length
  | [], _, r, hr => by simp at hr
  | a :: L, so, r, hr => by
    obtain ⟨h1, h2⟩ := List.pairwise_cons.mp so
    by_cases c : a < v
    · rw [List.filter_cons, if_pos (by simpa using c), List.length_cons]
      cases r with
      | zero => simp [c]
      | succ r =>
        have := uB (v := v) h2 r (by simpa using hr)
        simp only [List.getElem_cons_succ]
        omega
    · have e : (a :: L).filter (fun x => decide (x < v)) = [] := by
        rw [List.filter_eq_nil_iff]
        intro x hx
        rcases List.mem_cons.mp hx with rfl | hx
        · simpa using c
        · have := h1 x hx; simp; omega
      rw [e]
      have : ¬ (a :: L)[r] < v := by
        have hm := List.getElem_mem hr
        rcases List.mem_cons.mp hm with z | z
        · rw [z]; exact c
        · have := h1 _ z; omega
      simp [this]
theorem Eu {L : List Int} (so : L.Pairwise (· < ·)) (r : Nat) (hr : r < L.length) : (L.filter fun x => decide (x < L[r])).length = r := by
  have h := fun s hs => uB (v := L[r]) so s hs
  have lt : ∀ s (hs : s < L.length), L[s] < L[r] ↔ s < r := fun s hs => by
    constructor
    · intro z
      by_cases c : s < r
      · exact c
      · by_cases e : s = r
        · subst e; omega
        · have := List.pairwise_iff_getElem.mp so r s hr hs (by omega); omega
    · intro z; exact List.pairwise_iff_getElem.mp so s r hs hr z
  generalize (L.filter fun x => decide (x < L[r])).length = c at h
  by_cases c1 : c < r
  · have := (h c (by omega)).mp ((lt c (by omega)).mpr c1); omega
  · by_cases c2 : r < c
    · have := (lt r hr).mp ((h r hr).mpr c2); omega
    · omega
theorem sV {L l1 l2 : List Int} {x : Int} (so : L.Pairwise (· < ·)) (e : L = l1 ++ x :: l2) : (L.filter fun y => decide (y < x)) = l1 := by
  subst e
  rw [List.pairwise_append, List.pairwise_cons] at so
  rw [List.filter_append, List.filter_eq_self.mpr, List.filter_eq_nil_iff.mpr, List.append_nil]
  · intro y hy
    rcases List.mem_cons.mp hy with rfl | hy
    · simp
    · have := so.2.1.1 y hy; simp; omega
  · intro y hy
    have := so.2.2 y hy x List.mem_cons_self; simp; omega
theorem D9 (n : Nat) : (eV 0 n).Pairwise (· < ·) := by
  unfold eV
  rw [List.pairwise_map]
  exact List.Pairwise.imp (fun {a b} h => by omega) List.pairwise_lt_range
theorem rF (n : Nat) (xs : List Int) : (aB n xs).Pairwise (· < ·) := (D9 n).filter _
theorem wA {n : Nat} {xs : List Int} {x : Int} : aB n (xs ++ [x]) = (aB n xs).filter fun y => !(x == y) := by
  unfold aB
  rw [List.filter_filter]
  refine List.filter_congr fun y _ => ?_
  rw [List.any_append, Bool.not_or, Bool.and_comm]
  simp
theorem rM {xs ys : List Int} {i : Nat} (h : i < xs.length) : gI (xs ++ ys) i = gI xs i := by
  rw [dm (by simp; omega), dm h, List.getElem_append_left h]
theorem xQ {xs : List Int} {x : Int} : gI (xs ++ [x]) xs.length = x := by
  rw [dm (by simp), List.getElem_append_right (Nat.le_refl _)]; simp
theorem wI {xs : List Int} {x : Int} : bO (xs ++ [x]) = x := by
  unfold bO; rw [List.length_append]; exact xQ
theorem uW {xs : List Int} {x : Int} : (aK (xs ++ [x])).length = (aK xs).length + (if xs.length ≠ 0 /\ x < bO xs then 1 else 0) := by
  unfold aK qX
  rw [List.length_map, List.length_map, List.length_append]
  show ((List.range xs.length).filter _).length = _
  cases hl : xs.length with
  | zero => simp
  | succ m =>
    rw [List.range_succ, List.filter_append, List.length_append, show m + 1 - 1 = m from rfl]
    congr 1
    · congr 1
      refine List.filter_congr fun i hi => ?_
      have hi := List.mem_range.mp hi
      rw [rM (by omega), rM (by omega)]
    · have e1 : gI (xs ++ [x]) (m + 1) = x := by rw [<- hl]; exact xQ
      have e2 : gI (xs ++ [x]) m = bO xs := by unfold bO; rw [rM (by omega), hl]; rfl
      rw [List.filter_cons, e1, e2]
      by_cases c : x < bO xs <;> simp [c]
structure Cnt (n : Nat) (B : List Int -> Int) : Prop where
  pos : ∀ xs, Beg n xs -> 0 <= B xs
  sum : ∀ xs, Beg n xs -> xs.length < n -> B xs = ((aB n xs).map fun x => B (xs ++ [x])).sum
theorem AA {α : Type} (L : List Int) (f : Int -> α) : L.map f = (List.range L.length).map fun i => f (gI L i) := by
  refine List.ext_getElem (by simp) fun i h1 h2 => ?_
  rw [List.length_map] at h1
  simp [dm h1]
theorem i4 (n : Nat) (k : Int) : Cnt n (bcV n k) := by
  refine ⟨fun xs _ => D4, fun xs b hl => ?_⟩
  have ll := dO b
  obtain ⟨m, hm⟩ : ∃ m, n - xs.length = m + 1 := ⟨n - xs.length - 1, by omega⟩
  rw [hm] at ll
  have so := rF n xs
  rw [AA, ll]
  unfold bcV
  rw [hm]
  show sg (fun r => Rn m r (k - ((aK xs).length : Int) - lss r (lwI xs))) (m + 1) = _
  unfold sg
  congr 1
  refine List.map_congr_left fun r hr => ?_
  have hr := List.mem_range.mp hr
  have hr' : r < (aB n xs).length := by omega
  obtain ⟨x, hx⟩ : ∃ x, gI (aB n xs) r = x := ⟨_, rfl⟩
  rw [hx]
  have hx' : (aB n xs)[r] = x := by rw [<- hx, dm hr']
  have xin : x ∈ aB n xs := hx' ▸ List.getElem_mem hr'
  have b2 := b.snoc xin
  have e1 : lwI (xs ++ [x]) = r := by
    rw [<- jr b2 (by simp), wI, wA, List.filter_filter]
    have : ((aB n xs).filter fun y => decide (y < x) && !(x == y)) = (aB n xs).filter fun y => decide (y < x) := List.filter_congr fun y _ => by
      by_cases c : y < x
      · have : ¬ x = y := by omega
        simp [c, this]
      · simp [c]
    rw [this]
    have := Eu so r hr'
    rw [hx'] at this
    omega
  have e2 : ((aK (xs ++ [x])).length : Int) = ((aK xs).length : Int) + lss r (lwI xs) := by
    rw [uW]
    by_cases c : xs.length = 0
    · have : lwI xs = 0 := if_pos c
      rw [this]
      have : lss r 0 = 0 := if_neg (by omega)
      rw [this]
      simp [c]
    · rw [<- jr b c]
      have := uB (v := bO xs) so r hr'
      rw [hx'] at this
      unfold lss
      by_cases d : x < bO xs
      · have := this.mp d
        rw [if_pos ⟨c, d⟩, if_pos (by omega)]; omega
      · have : ¬ r < ((aB n xs).filter fun x => decide (x < bO xs)).length := fun z => d (this.mpr z)
        rw [if_neg (fun z => d z.2), if_neg (by omega)]; omega
  rw [e1, List.length_append]
  show _ = Rn (n - (xs.length + 1)) _ _
  rw [show n - (xs.length + 1) = m by omega, e2]
  congr 1
  omega
theorem rS {n : Nat} {k : Int} {xs : List Int} (h : xs.length = n) : bcV n k xs = if k = ((aK xs).length : Int) then 1 else 0 := by
  unfold bcV
  rw [show n - xs.length = 0 by omega]
  unfold Rn
  by_cases c : k = ((aK xs).length : Int)
  · rw [if_pos c, if_pos (by omega)]
  · rw [if_neg c, if_neg (by omega)]
noncomputable def nxB (n : Nat) (B : List Int -> Int) (xs : List Int) : List Int := (aB n xs).filter fun x => decide (0 < B (xs ++ [x]))
noncomputable def cT (B : List Int -> Int) (xs l : List Int) : Int := (l.map fun x => B (xs ++ [x])).sum
theorem bo {B : List Int -> Int} {xs l : List Int} {x : Int} : cT B xs (x :: l) = B (xs ++ [x]) + cT B xs l := by unfold cT; rw [List.map_cons, List.sum_cons]
theorem vH {B : List Int -> Int} {xs l1 l2 : List Int} : cT B xs (l1 ++ l2) = cT B xs l1 + cT B xs l2 := by
  induction l1 with
  | nil => unfold cT; simp
  | cons a l ih => rw [List.cons_append, bo, bo, ih]; omega
theorem mT {B : List Int -> Int} {xs : List Int} : ∀ {l : List Int}, (∀ x ∈ l, 0 <= B (xs ++ [x])) -> 0 <= cT B xs l
  | [], _ => Int.le_refl _
  | x :: l, h => by
    rw [bo]
    have := h x List.mem_cons_self
    have := mT (l := l) fun y hy => h y (List.mem_cons_of_mem _ hy)
    omega
theorem ni {B : List Int -> Int} {xs : List Int} {p : Int -> Bool} : ∀ {l : List Int}, (∀ x ∈ l, 0 <= B (xs ++ [x])) -> cT B xs ((l.filter fun x => decide (0 < B (xs ++ [x]))).filter p) = cT B xs (l.filter p)
  | [], _ => rfl
  | x :: l, h => by
    have h0 := h x List.mem_cons_self
    have ih := ni (p := p) (l := l) fun y hy => h y (List.mem_cons_of_mem _ hy)
    by_cases c : 0 < B (xs ++ [x])
    · rw [List.filter_cons, if_pos (by simpa using c), List.filter_cons, List.filter_cons]
      split
      · rw [bo, bo, ih]
      · exact ih
    · rw [List.filter_cons, if_neg (by simpa using c), List.filter_cons, ih]
      split
      · rw [bo]; omega
      · rfl
section
variable {n : Nat} {B : List Int -> Int} (C : Cnt n B)
include C
theorem Cnt.left {xs : List Int} (b : Beg n xs) : ∀ x ∈ aB n xs, 0 <= B (xs ++ [x]) := fun x hx => C.pos _ (b.snoc hx)
theorem Cnt.nx {xs : List Int} (b : Beg n xs) (hl : xs.length < n) : cT B xs (nxB n B xs) = B xs := by
  rw [C.sum xs b hl]
  have := ni (B := B) (xs := xs) (p := fun _ => true) (C.left b)
  have e : ∀ l : List Int, l.filter (fun _ => true) = l := fun l => List.filter_eq_self.mpr (by simp)
  rw [e, e] at this
  exact this
end
theorem BD {n : Nat} {B : List Int -> Int} {xs : List Int} : (nxB n B xs).Pairwise (· < ·) := (rF n xs).filter _
theorem kM {n : Nat} {B : List Int -> Int} {xs : List Int} {x : Int} (h : x ∈ nxB n B xs) : x ∈ aB n xs := (List.mem_filter.mp h).1
noncomputable def iM (B : List Int -> Int) (xs : List Int) : List Int -> Int -> Option (Int × Int)
  | [], _ => none
  | x :: r, t => if t < B (xs ++ [x]) then some (x, t) else iM B xs r (t - B (xs ++ [x]))
theorem qL {B : List Int -> Int} {xs : List Int} : ∀ {l : List Int} {t : Int}, 0 <= t -> t < cT B xs l -> ∃ x t' l1 l2, l = l1 ++ x :: l2 /\ iM B xs l t = some (x, t') /\ t' = t - cT B xs l1 /\ 0 <= t' /\ t' < B (xs ++ [x])
  | [], t, h0, h1 => by simp [cT] at h1; omega
  | x :: l, t, h0, h1 => by
    rw [bo] at h1
    by_cases c : t < B (xs ++ [x])
    · exact ⟨x, t, [], l, rfl, by unfold iM; rw [if_pos c], by simp [cT], h0, c⟩
    · obtain ⟨y, t', l1, l2, e1, e2, e3, e4, e5⟩ := qL (B := B) (xs := xs) (l := l) (t := t - B (xs ++ [x])) (by omega) (by omega)
      exact ⟨y, t', x :: l1, l2, by rw [e1]; rfl, by unfold iM; rw [if_neg c]; exact e2, by rw [bo]; omega, e4, e5⟩
theorem vn {B : List Int -> Int} {xs : List Int} {x u : Int} {l2 : List Int} (h0 : 0 <= u) (h1 : u < B (xs ++ [x])) : ∀ {l1 : List Int}, (∀ y ∈ l1, 0 <= B (xs ++ [y])) -> iM B xs (l1 ++ x :: l2) (cT B xs l1 + u) = some (x, u)
  | [], _ => by
    show iM B xs (x :: l2) (0 + u) = _
    unfold iM
    rw [Int.zero_add, if_pos h1]
  | y :: l1, h => by
    have hy := h y List.mem_cons_self
    have hp := mT (B := B) (xs := xs) (l := l1) fun z hz => h z (List.mem_cons_of_mem _ hz)
    rw [List.cons_append, bo]
    unfold iM
    rw [if_neg (by omega), show B (xs ++ [y]) + cT B xs l1 + u - B (xs ++ [y]) = cT B xs l1 + u by omega]
    exact vn h0 h1 fun z hz => h z (List.mem_cons_of_mem _ hz)
noncomputable def grd (n : Nat) (B : List Int -> Int) : Nat -> List Int -> Int -> List Int × Int
  | 0, xs, t => (xs, t)
  | j + 1, xs, t => match iM B xs (nxB n B xs) t with
    | some (x, t') => grd n B j (xs ++ [x]) t'
    | none => (xs, t)
noncomputable def rkL (n : Nat) (B : List Int -> Int) : List Int -> List Int -> Int
  | _, [] => 0
  | xs, y :: r => cT B xs ((aB n xs).filter fun x => decide (x < y)) + rkL n B (xs ++ [y]) r
theorem zd {n : Nat} {B : List Int -> Int} (C : Cnt n B) : ∀ (j : Nat) (xs : List Int) (t : Int), Beg n xs -> xs.length + j = n -> 0 <= t -> t < B xs →
    ∃ rest t', grd n B j xs t = (xs ++ rest, t') /\ rest.length = j /\ Beg n (xs ++ rest) /\ 0 <= t' /\ t' < B (xs ++ rest) /\ rkL n B xs rest = t - t'
  | 0, xs, t, b, hl, h0, h1 => ⟨[], t, by simp [grd], rfl, by simpa using b, h0, by simpa using h1, by simp [rkL]⟩
  | j + 1, xs, t, b, hl, h0, h1 => by
    rw [<- C.nx b (by omega)] at h1
    obtain ⟨x, t', l1, l2, e1, e2, e3, e4, e5⟩ := qL h0 h1
    have xin : x ∈ nxB n B xs := by rw [e1]; simp
    have b2 := b.snoc (kM xin)
    obtain ⟨rest, t2, g1, g2, g3, g4, g5, g6⟩ := zd C j (xs ++ [x]) t' b2 (by simp; omega) e4 e5
    rw [List.append_assoc] at g1 g3 g5
    refine ⟨x :: rest, t2, ?_, by simp [g2], g3, g4, g5, ?_⟩
    · unfold grd; rw [e2]; exact g1
    · unfold rkL
      rw [g6, <- ni (C.left b)]
      have := sV (BD (n := n) (B := B) (xs := xs)) e1
      rw [show ((aB n xs).filter fun x => decide (0 < B (xs ++ [x]))) = nxB n B xs from rfl, this]
      omega
theorem BF {n : Nat} {B : List Int -> Int} (C : Cnt n B) : ∀ (rest xs : List Int) (t : Int), Beg n (xs ++ rest) -> 0 <= t -> t < B (xs ++ rest) -> xs.length + rest.length = n →
    0 <= rkL n B xs rest /\ rkL n B xs rest + t < B xs /\ grd n B rest.length xs (rkL n B xs rest + t) = (xs ++ rest, t)
  | [], xs, t, b, h0, h1, hl => by simp [rkL, grd] at *; exact h1
  | y :: rest, xs, t, b, h0, h1, hl => by
    have e : xs ++ y :: rest = (xs ++ [y]) ++ rest := by simp
    rw [e] at b h1
    obtain ⟨i0, i1, i2⟩ := BF C rest (xs ++ [y]) t b h0 h1 (by simp at hl ⊢; omega)
    have bx : Beg n (xs ++ [y]) := by have := b.take (xs ++ [y]).length; rwa [List.take_left'  rfl] at this
    have b0 : Beg n xs := by have := bx.take xs.length; rwa [List.take_left' rfl] at this
    have yl : y ∈ aB n xs := by
      refine List.mem_filter.mpr ⟨?_, ?_⟩
      · have := bx.lo y (by simp); have := bx.hi y (by simp)
        exact List.mem_map.mpr ⟨y.toNat, List.mem_range.mpr (by omega), by omega⟩
      · have nd := bx.nd
        rw [List.nodup_append] at nd
        have : xs.any (· == y) = false := by
          rw [List.any_eq_false]; intro z hz q
          exact nd.2.2 z hz y (by simp) (beq_iff_eq.mp q)
        rw [this]; rfl
    have yn : y ∈ nxB n B xs := List.mem_filter.mpr ⟨yl, by simp; omega⟩
    obtain ⟨l1, l2, el⟩ := List.append_of_mem yn
    have lp : ∀ z ∈ nxB n B xs, 0 <= B (xs ++ [z]) := fun z hz => C.left b0 z (kM hz)
    have s1 := C.nx b0 (by simp at hl; omega)
    have p1 := sV (BD (n := n) (B := B) (xs := xs)) el
    have sm : cT B xs ((aB n xs).filter fun x => decide (x < y)) = cT B xs l1 := by
      rw [<- ni (C.left b0), show ((aB n xs).filter fun x => decide (0 < B (xs ++ [x]))) = nxB n B xs from rfl, p1]
    have l1p : ∀ z ∈ l1, 0 <= B (xs ++ [z]) := fun z hz => lp z (by rw [el]; simp [hz])
    have l2p : ∀ z ∈ l2, 0 <= B (xs ++ [z]) := fun z hz => lp z (by rw [el]; simp [hz])
    have q1 := mT l1p
    have q2 := mT l2p
    rw [el, vH, bo] at s1
    have pk := vn (B := B) (xs := xs) (l2 := l2) (x := y) (u := rkL n B (xs ++ [y]) rest + t) (by omega) i1 l1p
    unfold rkL
    rw [sm]
    refine ⟨by omega, by omega, ?_⟩
    rw [List.length_cons]
    unfold grd
    rw [el, Int.add_assoc, pk, e]
    exact i2
noncomputable def og (n : Nat) (B : List Int -> Int) (C : D) : Prop := ∃ x ds np m, C = .clo x ds /\ fS x = some (np, m) /\ ds.length + 1 = np /\ ∀ xs h, Beg n xs -> m (ds ++ [.tup (xs.map D.int)]) h = .ok (.int (B xs)) h
theorem kH {n : Nat} {B : List Int -> Int} {C : D} (c : og n B C) {xs : List Int} {f : ME} {a : MA} {env : En} {h h1 h2 : Hh} (b : Beg n xs) (ef : f env h = .ok C h1) (ea : a env h1 = .ok [.tup (xs.map D.int)] h2) : eX fS f a env h = .ok (.int (B xs)) h2 := by
  obtain ⟨x, ds, np, m, rfl, et, el, em⟩ := c
  unfold eX
  rw [ef]
  show (match fS x with | some (np, m) => _ | none => _) = _
  rw [et]
  show (if ds.length + 1 = np then _ else _) = _
  rw [if_pos el, ea]
  exact em xs h2 b
theorem nK {n : Nat} {k : Int} (hn : n <= 12) : og n (bcV n k) (.clo "begun_count" [.frl (rsD n), .int k]) := ⟨_, _, 3, aP, rfl, lj, rfl, fun xs h b => BX b hn⟩
theorem pP {n : Nat} {B : List Int -> Int} {C : D} {xs : List Int} {h : Hh} (c : og n B C) (b : Beg n xs) (hn : n <= 1000) : a_ [.int n, .tup (xs.map D.int), C] h = .ok (.frl ((nxB n B xs).map fun x => tpl (xs ++ [x]))) h := by
  have bl := b.len
  have q := pX (n := n) (xs := xs) (h := h) (by omega)
  have q2 : cL (aC asB (ar dGt (eX fS (ag 1) (aa (ag 0) ak)) (cC (.int 0)))) (ag 0) (fun x => [some x, some C]) ((aB n xs).map fun x => tpl (xs ++ [x])) h = .ok ((nxB n B xs).map fun x => tpl (xs ++ [x])) h := by
    rw [comp_map (fun x => tpl (xs ++ [x])) (fun x => decide (0 < B (xs ++ [x]))) (fun x => tpl (xs ++ [x])) (aB n xs) fun x hx => ⟨by
      have e := kH (f := ag 1) (a := aa (ag 0) ak) (env := [some (tpl (xs ++ [x])), some C]) (h := h) (h1 := h) (h2 := h) c (b.snoc hx) (by simp) (by simp [tpl])
      simp only [CM, DQ, e]
      simp, fun _ => by simp⟩]
    rfl
  have l1 : ((aB n xs).map fun x => tpl (xs ++ [x])).length <= 1000000 := by rw [List.length_map, dO b]; omega
  have z2 : (n : Int).natAbs <= 1000000 := by omega
  have z3 : n <= 1000000 := by omega
  generalize ((aB n xs).map fun x => tpl (xs ++ [x])) = W at *
  generalize ((nxB n B xs).map fun x => tpl (xs ++ [x])) = W2 at *
  generalize xs.map D.int = X at *
  simp [a_, bF, z2, z3, q, l1, q2]
noncomputable def ONB : MS := (aG (bB 6 (eX fS (ag 2) (aa (ag 5) ak))) (aG (dQ (aC asB (ar dLt (ag 1) (ag 6))) (aG (bB 3 (ag 5)) A2) bU) (wx 1 eT (ag 6))))
noncomputable def ONO : MS := (fY (fH (ai a_ (aa (ag 0) (aa (ag 3) (aa (ag 2) ak))))) (gN 5) ONB)
theorem Br {n : Nat} {B : List Int -> Int} {C : D} (c : og n B C) {xs : List Int} {h : Hh} {y4 : Option D} (b : Beg n xs) : ∀ (l : List Int) (t x t' : Int) (y5 y6 : Option D), (∀ z ∈ l, z ∈ aB n xs) -> iM B xs l t = some (x, t') →
    ∃ z5 z6, ff (gN 5) ONB (l.map fun x => tpl (xs ++ [x])) [some (.int n), some (.int t), some C, some (.tup (xs.map D.int)), y4, y5, y6] h = .ok (.nx [some (.int n), some (.int t'), some C, some (tpl (xs ++ [x])), y4, z5, z6]) h
  | [], t, x, t', y5, y6, _, e => by cases e
  | z :: l, t, x, t', y5, y6, hl, e => by
    have cc := kH (f := ag 2) (a := aa (ag 5) ak) (env := [some (.int n), some (.int t), some C, some (.tup (xs.map D.int)), y4, some (tpl (xs ++ [z])), y6]) (h := h) (h1 := h) (h2 := h) c (b.snoc (hl z List.mem_cons_self)) (by simp) (by simp [tpl])
    rw [List.map_cons, nX]
    unfold iM at e
    split at e
    · rename_i c1
      cases e
      refine ⟨some (tpl (xs ++ [z])), some (.int (B (xs ++ [z]))), ?_⟩
      generalize tpl (xs ++ [z]) = Z at *
      generalize (l.map fun x => tpl (xs ++ [x])) = W
      simp [ONB, cc, c1]
    · rename_i c1
      obtain ⟨z5, z6, q⟩ := Br c (xs := xs) (h := h) (y4 := y4) b l (t - B (xs ++ [z])) x t' (some (tpl (xs ++ [z]))) (some (.int (B (xs ++ [z])))) (fun y hy => hl y (List.mem_cons_of_mem _ hy)) e
      refine ⟨z5, z6, ?_⟩
      generalize tpl (xs ++ [z]) = Z at *
      generalize (l.map fun x => tpl (xs ++ [x])) = W at *
      have st : ONB [some (.int n), some (.int t), some C, some (.tup (xs.map D.int)), y4, some Z, y6] h = .ok (.nx [some (.int n), some (.int (t - B (xs ++ [z]))), some C, some (.tup (xs.map D.int)), y4, some Z, some (.int (B (xs ++ [z])))]) h := by simp [ONB, cc, c1]
      simp [st, q]
theorem xK {n : Nat} {B : List Int -> Int} {C : D} {t : Int} {h : Hh} (K : Cnt n B) (c : og n B C) (hn : n <= 1000) (h0 : 0 <= t) (h1 : t < B []) : bK [.int n, .int t, C] h = .ok (.tup ((grd n B n [] t).1.map D.int)) h := by
  obtain ⟨s, lp, sl, sb, s0, s1, sg⟩ := vt (σ := List Int × Int × Option D × Option D × Option D) (tg := gN 4) (body := ONO) (fun (i : Nat) => D.int i) n (fun s => [some (.int n), some (.int s.2.1), some C, some (.tup (s.1.map D.int)), s.2.2.1, s.2.2.2.1, s.2.2.2.2]) (fun _ => h) (fun i s => s.1.length = i /\ Beg n s.1 /\ 0 <= s.2.1 /\ s.2.1 < B s.1 /\ grd n B (n - i) s.1 s.2.1 = grd n B n [] t) (fun i s hi hs => by
    obtain ⟨xs, u, y4, y5, y6⟩ := s
    obtain ⟨e1, b, u0, u1, eg⟩ := hs
    dsimp only at e1 b u0 u1 eg ⊢
    have u1' := u1
    rw [<- K.nx b (by omega)] at u1'
    obtain ⟨x, t', l1, l2, p1, p2, p3, p4, p5⟩ := qL u0 u1'
    have xin : x ∈ aB n xs := kM (by rw [p1]; simp)
    obtain ⟨z5, z6, q⟩ := Br c (xs := xs) (h := h) (y4 := some (.int (i : Int))) b (nxB n B xs) u x t' y5 y6 (fun z hz => kM hz) p2
    refine ⟨(xs ++ [x], t', some (.int i), z5, z6), ⟨by simp [e1], b.snoc xin, p4, p5, ?_⟩, ?_⟩
    · rw [<- eg, show n - i = (n - (i + 1)) + 1 by omega]
      show _ = (match iM B xs (nxB n B xs) u with | some (x, t') => grd n B (n - (i + 1)) (xs ++ [x]) t' | none => (xs, u))
      rw [p2]
    · have lo := pP (h := h) c b hn
      have ll : ((nxB n B xs).map fun x => tpl (xs ++ [x])).length <= 1000000 := by
        rw [List.length_map]
        have := List.length_filter_le (fun x => decide (0 < B (xs ++ [x]))) (aB n xs)
        rw [dO b] at this
        unfold nxB; omega
      dsimp only
      rw [show tpl (xs ++ [x]) = D.tup ((xs ++ [x]).map D.int) from rfl] at q
      generalize ((nxB n B xs).map fun x => tpl (xs ++ [x])) = W at *
      generalize (xs ++ [x]).map D.int = X2 at *
      generalize xs.map D.int = X at *
      simp [ONO, lo, q]) n 0 ([], t, none, none, none) (by omega) ⟨rfl, Beg.nil n, h0, h1, rfl⟩
  obtain ⟨xs, u, y4, y5, y6⟩ := s
  dsimp only at lp sl sb s0 s1 sg
  rw [Nat.sub_self] at sg
  have e : (grd n B n [] t).1 = xs := by rw [<- sg]; rfl
  rw [e]
  rw [<- List.range_eq_range', <- jx, List.map_nil] at lp
  have z2 : (n : Int).natAbs <= 1000000 := by omega
  have z3 : n <= 1000000 := by omega
  have eq : bK = c_ 7 (aG (bB 3 (ai hG ak)) (aG (fY (iQ jo (aa (ag 0) ak)) (gN 4) ONO) (bH (ag 3)))) := rfl
  rw [eq]
  simp [bF, z2, z3, lp]
noncomputable def NAB : MS := (dQ (aC asB (ar dLt (ar dIx (ag 4) (cUn lT (cC (.int 1)))) (ar dIx (ag 0) (ag 3)))) (wx 2 oy (eX fS (ag 1) (aa (ag 4) ak))) bU)
noncomputable def NAO : MS := (fY (fH (ai a_ (aa (ai ck (aa (ag 0) ak)) (aa (iD bh (ag 0) hJ (jn (ag 3))) (aa (ag 1) ak))))) (gN 4) NAB)
theorem xD {n : Nat} {B : List Int -> Int} {C : D} (c : og n B C) {xs os : List Int} {h : Hh} {p : Nat} (b : Beg n xs) (hp : p < os.length) : ∀ (l : List Int) (t : Int) (y4 : Option D), (∀ z ∈ l, z ∈ aB n xs) →
    ∃ z4, ff (gN 4) NAB (l.map fun x => tpl (xs ++ [x])) [some (.tup (os.map D.int)), some C, some (.int t), some (.int (p : Int)), y4] h = .ok (.nx [some (.tup (os.map D.int)), some C, some (.int (t + cT B xs (l.filter fun x => decide (x < gI os p)))), some (.int (p : Int)), z4]) h
  | [], t, y4, _ => ⟨y4, by simp [Am, cT]⟩
  | z :: l, t, y4, hl => by
    have io : ixK (os.map D.int) (p : Int) h = .ok (.int (gI os p)) h := kL rfl hp
    have iz : dIx (tpl (xs ++ [z])) (.int (-1)) h = .ok (.int z) h := by
      have e : (xs ++ [z]).map D.int = xs.map D.int ++ [D.int z] := by simp
      unfold tpl; rw [e]; simp
    rw [List.map_cons, nX]
    by_cases c1 : z < gI os p
    · have cc := kH (f := ag 1) (a := aa (ag 4) ak) (env := [some (.tup (os.map D.int)), some C, some (.int t), some (.int (p : Int)), some (tpl (xs ++ [z]))]) (h := h) (h1 := h) (h2 := h) c (b.snoc (hl z List.mem_cons_self)) (by simp) (by simp [tpl])
      obtain ⟨z4, q⟩ := xD c (xs := xs) (os := os) (h := h) b hp l (t + B (xs ++ [z])) (some (tpl (xs ++ [z]))) (fun y hy => hl y (List.mem_cons_of_mem _ hy))
      refine ⟨z4, ?_⟩
      rw [List.filter_cons, if_pos (by simpa using c1), bo, <- Int.add_assoc]
      generalize tpl (xs ++ [z]) = Z at *
      generalize (l.map fun x => tpl (xs ++ [x])) = W at *
      generalize os.map D.int = X at *
      have st : NAB [some (.tup X), some C, some (.int t), some (.int (p : Int)), some Z] h = .ok (.nx [some (.tup X), some C, some (.int (t + B (xs ++ [z]))), some (.int (p : Int)), some Z]) h := by simp [NAB, io, iz, c1, cc]
      simp [st, q]
    · obtain ⟨z4, q⟩ := xD c (xs := xs) (os := os) (h := h) b hp l t (some (tpl (xs ++ [z]))) (fun y hy => hl y (List.mem_cons_of_mem _ hy))
      refine ⟨z4, ?_⟩
      rw [List.filter_cons, if_neg (by simpa using c1)]
      generalize tpl (xs ++ [z]) = Z at *
      generalize (l.map fun x => tpl (xs ++ [x])) = W at *
      generalize os.map D.int = X at *
      have st : NAB [some (.tup X), some C, some (.int t), some (.int (p : Int)), some Z] h = .ok (.nx [some (.tup X), some C, some (.int t), some (.int (p : Int)), some Z]) h := by simp [NAB, io, iz, c1]
      simp [st, q]
theorem AZ {n : Nat} {B : List Int -> Int} {os : List Int} {i : Nat} (hi : i < os.length) : rkL n B (os.take i) (os.drop i) = cT B (os.take i) ((aB n (os.take i)).filter fun x => decide (x < gI os i)) + rkL n B (os.take (i + 1)) (os.drop (i + 1)) := by
  have e : os.drop i = gI os i :: os.drop (i + 1) := by rw [dm hi]; exact List.drop_eq_getElem_cons hi
  have e2 : os.take (i + 1) = os.take i ++ [gI os i] := by rw [dm hi]; exact List.take_succ_eq_append_getElem hi
  rw [e, e2]
  rfl
theorem vM {n : Nat} {B : List Int -> Int} {C : D} {os : List Int} {h : Hh} (K : Cnt n B) (c : og n B C) (hn : n <= 1000) (o : Ord n os) : cx [.tup (os.map D.int), C] h = .ok (.int (rkL n B [] os)) h := by
  have ol := o.len
  obtain ⟨s, lp, si⟩ := vt (σ := Int × Option D × Option D) (tg := gN 3) (body := NAO) (fun (i : Nat) => D.int i) n (fun s => [some (.tup (os.map D.int)), some C, some (.int s.1), s.2.1, s.2.2]) (fun _ => h) (fun i s => s.1 + rkL n B (os.take i) (os.drop i) = rkL n B [] os) (fun i s hi hs => by
    obtain ⟨t, y3, y4⟩ := s
    dsimp only at hs ⊢
    have b : Beg n (os.take i) := o.beg.take i
    obtain ⟨z4, q⟩ := xD c (xs := os.take i) (os := os) (h := h) (p := i) b (by omega) (nxB n B (os.take i)) t y4 (fun z hz => kM hz)
    have sm := ni (B := B) (xs := os.take i) (p := fun x => decide (x < gI os i)) (K.left b)
    rw [show ((aB n (os.take i)).filter fun x => decide (0 < B (os.take i ++ [x]))) = nxB n B (os.take i) from rfl] at sm
    rw [sm] at q
    refine ⟨(t + cT B (os.take i) ((aB n (os.take i)).filter fun x => decide (x < gI os i)), some (.int i), z4), ?_, ?_⟩
    · dsimp only
      have rd := AZ (n := n) (B := B) (os := os) (i := i) (by omega)
      omega
    · have lo := pP (h := h) c b hn
      have ll : ((nxB n B (os.take i)).map fun x => tpl (os.take i ++ [x])).length <= 1000000 := by
        rw [List.length_map]
        have := List.length_filter_le (fun x => decide (0 < B (os.take i ++ [x]))) (aB n (os.take i))
        rw [dO b] at this
        unfold nxB; omega
      have ct : cutD (os.map D.int) none (some (i : Int)) = (os.take i).map D.int := by rw [oU, vi]
      have lx : (os.map D.int).length = n := by rw [List.length_map, ol]
      generalize ((nxB n B (os.take i)).map fun x => tpl (os.take i ++ [x])) = W at *
      generalize (os.take i).map D.int = X2 at *
      generalize os.map D.int = X at *
      have z9 : n <= 1000000 := by omega
      simp [NAO, lx, ct, lo, q, z9]) n 0 (0, none, none) (by omega) (by simp)
  obtain ⟨t, y3, y4⟩ := s
  dsimp only at lp si
  have e : t = rkL n B [] os := by
    rw [<- si, List.drop_eq_nil_of_le (by omega)]
    simp [rkL]
  subst e
  rw [<- List.range_eq_range', <- jx] at lp
  have z2 : (n : Int).natAbs <= 1000000 := by omega
  have z3 : n <= 1000000 := by omega
  have lx : (os.map D.int).length = n := by rw [List.length_map, ol]
  have eq : cx = c_ 5 (aG (bB 2 (cC (.int 0))) (aG (fY (iQ jo (aa (ai ck (aa (ag 0) ak)) ak)) (gN 3) NAO) (bH (ag 2)))) := rfl
  rw [eq]
  generalize os.map D.int = X at *
  simp [bF, lx, z2, z3, lp]
theorem zy {n : Nat} {k t : Int} (h0 : 0 <= t) (h1 : t < bcV n k []) : ∃ xs, (grd n (bcV n k) n [] t).1 = xs /\ Ord n xs /\ ((aK xs).length : Int) = k /\ rkL n (bcV n k) [] xs = t := by
  obtain ⟨rest, t', e1, e2, e3, e4, e5, e6⟩ := zd (i4 n k) n [] t (Beg.nil n) (by simp) h0 h1
  rw [List.nil_append] at e1 e3 e5
  rw [rS e2] at e5
  by_cases c : k = ((aK rest).length : Int)
  · rw [if_pos c] at e5
    exact ⟨rest, by rw [e1], ⟨e2, e3.nd, e3.lo, e3.hi⟩, c.symm, by omega⟩
  · rw [if_neg c] at e5; omega
theorem Bg {n : Nat} {os : List Int} (o : Ord n os) : 0 <= rkL n (bcV n ((aK os).length : Int)) [] os /\ rkL n (bcV n ((aK os).length : Int)) [] os < bcV n ((aK os).length : Int) [] /\ (grd n (bcV n ((aK os).length : Int)) n [] (rkL n (bcV n ((aK os).length : Int)) [] os)).1 = os := by
  have bf := rS (k := ((aK os).length : Int)) o.len
  rw [if_pos rfl] at bf
  obtain ⟨a, b, c⟩ := BF (i4 n ((aK os).length : Int)) os [] 0 o.beg (Int.le_refl _) (by rw [List.nil_append, bf]; omega) (by simp [o.len])
  rw [Int.add_zero, o.len] at c
  exact ⟨a, by omega, by rw [c]; rfl⟩
theorem vD {m r : Nat} {l f : Int} (hr : r <= m) : Rn m r (f - lss r l) <= Rn (m + 1) l f := by
  show _ <= sg (fun r => Rn m r (f - lss r l)) (m + 1)
  have e := rp (fun r => Rn m r (f - lss r l)) r (1 + (m - r))
  rw [show r + (1 + (m - r)) = m + 1 by omega, rp _ 1] at e
  have p1 := (u_ (f := fun r => Rn m r (f - lss r l)) (B := wM m) (n := r) fun i _ => sN _ _ _).1
  have p2 := (u_ (f := fun i => Rn m ((r + (1 + i) : Nat) : Int) (f - lss (r + (1 + i)) l)) (B := wM m) (n := m - r) fun i _ => sN _ _ _).1
  have e1 : sg (fun i => Rn m ((r + i : Nat) : Int) (f - lss (r + i) l)) 1 = Rn m r (f - lss r l) := by rw [sy, yX]; simp
  rw [e1] at e
  omega
theorem oO : ∀ (m : Nat) (l f : Int), 0 <= l -> l <= m -> 0 <= f -> f <= m -> (f = 0 -> l = 0) -> (f = m -> l = m) -> 0 < Rn m l f
  | 0, l, f, _, _, f0, f1, _, _ => by
    have : f = 0 := by omega
    subst this
    unfold Rn; simp
  | m + 1, l, f, l0, l1, f0, f1, a, b => by
    by_cases c0 : f = 0
    · have := oO m 0 0 (by omega) (by omega) (by omega) (by omega) (fun _ => rfl) (fun z => z)
      have g := vD (m := m) (r := 0) (l := l) (f := f) (by omega)
      have e : lss 0 l = 0 := by rw [a c0]; rfl
      rw [e, c0] at g
      rw [c0]
      exact Int.lt_of_lt_of_le this g
    · by_cases c1 : f = ((m + 1 : Nat) : Int)
      · have := oO m m m (by omega) (by omega) (by omega) (by omega) (fun z => z) (fun _ => rfl)
        have g := vD (m := m) (r := m) (l := l) (f := f) (by omega)
        have e : lss m l = 1 := if_pos (by have := b c1; omega)
        rw [e, show f - 1 = (m : Int) by omega] at g
        omega
      · by_cases c2 : l = 0
        · have := oO m m f (by omega) (by omega) (by omega) (by omega) (by omega) (fun _ => rfl)
          have g := vD (m := m) (r := m) (l := l) (f := f) (by omega)
          have e : lss m l = 0 := if_neg (by omega)
          rw [e, Int.sub_zero] at g
          omega
        · have := oO m 0 (f - 1) (by omega) (by omega) (by omega) (by omega) (fun _ => rfl) (by omega)
          have g := vD (m := m) (r := 0) (l := l) (f := f) (by omega)
          have e : lss 0 l = 1 := if_pos (by omega)
          rw [e] at g
          exact Int.lt_of_lt_of_le this g
theorem BL {n k : Nat} (hk : k < n) : 0 < bcV n k [] := by
  have h : lwI [] = 0 := rfl
  have f : ((aK []).length : Int) = 0 := rfl
  unfold bcV
  rw [h, f]
  exact oO n 0 _ (by omega) (by omega) (by omega) (by omega) (fun _ => rfl) (by omega)
theorem Dv {n : Nat} {k : Int} {xs : List Int} (hn : n <= 12) : bcV n k xs <= 10 ^ 20 := by
  have := (sN (n - xs.length) (lwI xs) (k - ((aK xs).length : Int))).2
  have := CO (n - xs.length) (by omega)
  unfold bcV
  omega
theorem pS {n : Nat} {os : List Int} {h : Hh} (o : Ord n os) (h1 : 1 <= n) (hn : n <= 12) (w : Wf h) : bX [.tup (os.map D.int)] h = .ok .non h := by
  have a := k_ o h1 (by omega) w
  have l : (((os.map D.int).length : Nat) : Int) = n := by rw [List.length_map, o.len]
  have c : ¬ (12 : Int) < n := by omega
  have c' : ¬ 12 < n := by omega
  generalize os.map D.int = X at *
  simp [bX, bF, a, l, c, c']
theorem lB {n k : Nat} {h : Hh} (h1 : 1 <= n) (hn : n <= 12) (hk : k <= 12) : bc [.int n, .int k] h = .ok .non h := by
  have z1 : (1 : Int) <= n /\ (n : Int) <= 12 := by omega
  have z2 : (0 : Int) <= k /\ (k : Int) <= 12 := by omega
  simp [bc, bF, z1, z2]
theorem BG {n : Nat} {os : List Int} {h : Hh} (o : Ord n os) (h1 : 1 <= n) (hn : n <= 12) (w : Wf h) : cV [.tup (os.map D.int)] h = .ok (.int (rkL n (bcV n ((aK os).length : Int)) [] os)) h := by
  have a := pS o h1 hn w
  have l : (((os.map D.int).length : Nat) : Int) = n := by rw [List.length_map, o.len]
  have f := kX (xs := os) (h := h) (by rw [o.len]; omega)
  have l5 : ((((aK os).map D.int).length : Nat) : Int) = ((aK os).length : Int) := by rw [List.length_map]
  have c := ju (n := n) (k := ((aK os).length : Int)) hn w
  have e := vM (h := h) (i4 n ((aK os).length : Int)) (nK hn) (by omega) o
  generalize ((aK os).length : Int) = k at *
  generalize (aK os).map D.int = F1 at *
  generalize os.map D.int = X at *
  simp [cV, bF, a, l, f, l5, c, e]
theorem qr {n : Nat} {k : Int} {i : Nat} {env : En} {h : Hh} (hn : n <= 12) (e : ag i env h = .ok (.clo "begun_count" [.frl (rsD n), .int k]) h) : eX fS (ag i) (aa (ai hG ak) ak) env h = .ok (.int (bcV n k [])) h :=
  kH (h1 := h) (h2 := h) (nK hn) (Beg.nil n) e (by simp)
theorem D6 {n k : Nat} {t : Int} {h : Hh} (h1 : 1 <= n) (hn : n <= 12) (hk : k <= 12) (t0 : 0 <= t) (t1 : t < bcV n k []) (w : Wf h) : eK [.int n, .int k, .int t] h = .ok (.tup ((grd n (bcV n k) n [] t).1.map D.int)) h := by
  have a := lB (h := h) h1 hn hk
  have c := ju (n := n) (k := (k : Int)) hn w
  have e := xK (h := h) (i4 n k) (nK hn) (by omega) t0 t1
  have mc := qr (n := n) (k := (k : Int)) (i := 3) (env := [some (.int n), some (.int k), some (.int t), some (.clo "begun_count" [.frl (rsD n), .int k])]) (h := h) hn (by simp)
  have z2 : (0 : Int) <= t /\ t <= bcV n k [] - 1 := by omega
  have nn := zc (h := h) z2
  generalize bcV n (k : Int) [] = V at *
  generalize (grd n (bcV n k) n [] t).1.map D.int = X at *
  generalize rsD n = RN at *
  simp [eK, bF, a, c, mc, nn, e]
theorem zT {n : Nat} {os : List Int} {h : Hh} (o : Ord n os) (h1 : 1 <= n) (hn : n <= 12) (w : Wf h) : cZ [.tup (os.map D.int)] h = if rkL n (bcV n ((aK os).length : Int)) [] os + 1 = bcV n ((aK os).length : Int) [] then .ok .non h else .ok (.tup ((grd n (bcV n ((aK os).length : Int)) n [] (rkL n (bcV n ((aK os).length : Int)) [] os + 1)).1.map D.int)) h := by
  obtain ⟨r0, r1, _⟩ := Bg o
  have a := pS o h1 hn w
  have l : (((os.map D.int).length : Nat) : Int) = n := by rw [List.length_map, o.len]
  have f := kX (xs := os) (h := h) (by rw [o.len]; omega)
  have l5 : ((((aK os).map D.int).length : Nat) : Int) = ((aK os).length : Int) := by rw [List.length_map]
  have c := ju (n := n) (k := ((aK os).length : Int)) hn w
  have e := vM (h := h) (i4 n ((aK os).length : Int)) (nK hn) (by omega) o
  have kc := fun t => xK (t := t) (h := h) (i4 n ((aK os).length : Int)) (nK hn) (by omega)
  generalize ((aK os).length : Int) = k at *
  generalize rkL n (bcV n k) [] os = R1 at *
  have mc := qr (n := n) (k := k) (i := 1) (env := [some (.tup (os.map D.int)), some (.clo "begun_count" [.frl (rsD n), .int k]), some (.int (R1 + 1))]) (h := h) hn (by simp)
  generalize (aK os).map D.int = F1 at *
  generalize os.map D.int = X at *
  by_cases z : R1 + 1 = bcV n k []
  · rw [if_pos z]
    rw [z] at mc
    generalize bcV n k [] = V at *
    generalize rsD n = RN at *
    simp [cZ, bF, a, l, f, l5, c, e, mc, z]
  · rw [if_neg z]
    have e2 := kc (R1 + 1) (by omega) (by omega)
    generalize bcV n k [] = V at *
    generalize (grd n (bcV n k) n [] (R1 + 1)).1.map D.int = X2 at *
    generalize rsD n = RN at *
    simp [cZ, bF, a, l, f, l5, c, e, mc, z, e2]
theorem xO : ∀ (m : Nat) (l f : Int), Rn m ((m : Int) - l) ((m : Int) - f) = Rn m l f
  | 0, l, f => by
    unfold Rn
    by_cases c : f = 0
    · rw [if_pos c, if_pos (by omega)]
    · rw [if_neg c, if_neg (by omega)]
  | m + 1, l, f => by
    show sg (fun r => Rn m r (((m + 1 : Nat) : Int) - f - lss r (((m + 1 : Nat) : Int) - l))) (m + 1) = sg (fun r => Rn m r (f - lss r l)) (m + 1)
    have key : ∀ (g1 g2 : Nat -> Int) (N : Nat), (∀ r, r < N -> g1 (N - 1 - r) = g2 r) -> sg g1 N = sg g2 N := by
      intro g1 g2 N
      induction N generalizing g1 with
      | zero => intro _; rfl
      | succ N ih =>
        intro h
        have e := rp g1 1 N
        rw [show 1 + N = N + 1 by omega] at e
        rw [e, sy g2, ih (fun i => g1 (1 + i)) fun r hr => by
          rw [<- h r (by omega)]
          show g1 (1 + (N - 1 - r)) = g1 (N + 1 - 1 - r)
          congr 1; omega]
        have e2 : sg g1 1 = g2 N := by
          rw [sy, yX, Int.zero_add, <- h N (by omega)]
          congr 1; omega
        rw [e2]; omega
    refine key _ _ (m + 1) fun r hr => ?_
    rw [<- xO m r (f - lss r l)]
    have e1 : (((m + 1 - 1 - r : Nat) : Nat) : Int) = (m : Int) - r := by omega
    rw [e1]
    congr 1
    unfold lss
    rw [e1]
    by_cases c : (r : Int) < l
    · rw [if_pos c, if_neg (by omega)]; omega
    · rw [if_neg c, if_pos (by omega)]; omega
noncomputable def bR (n : Nat) (xs : List Int) : List Int := xs.map fun x => (n : Int) - 1 - x
theorem gG {n : Nat} {xs : List Int} : (bR n xs).length = xs.length := by simp [bR]
theorem vE {n : Nat} {xs ys : List Int} : bR n (xs ++ ys) = bR n xs ++ bR n ys := by simp [bR]
theorem yi {n : Nat} {xs : List Int} {x : Int} : ((n : Int) - 1 - x) ∈ bR n xs ↔ x ∈ xs := by
  unfold bR
  rw [List.mem_map]
  constructor
  · rintro ⟨y, hy, e⟩
    have : y = x := by omega
    exact this ▸ hy
  · exact fun h => ⟨x, h, rfl⟩
theorem ve {n : Nat} {xs : List Int} (b : Beg n xs) : Beg n (bR n xs) := by
  refine ⟨by rw [gG]; exact b.len, ?_, fun x hx => ?_, fun x hx => ?_⟩
  · unfold bR List.Nodup
    rw [List.pairwise_map]
    exact b.nd.imp fun h e => h (by omega)
  · obtain ⟨y, hy, rfl⟩ := List.mem_map.mp hx; have := b.hi y hy; omega
  · obtain ⟨y, hy, rfl⟩ := List.mem_map.mp hx; have := b.lo y hy; omega
theorem Bn (n : Nat) : eV 0 n = (bR n (eV 0 n)).reverse := by
  refine List.ext_getElem (by simp [bR]) fun i h1 h2 => ?_
  have h3 : i < n := by simpa [eV] using h1
  simp [bR, eV]
  omega
theorem Aq {n : Nat} {xs : List Int} {x : Int} : (bR n xs).any (· == (n : Int) - 1 - x) = xs.any (· == x) := by
  rw [Bool.eq_iff_iff, List.any_eq_true, List.any_eq_true]
  constructor
  · rintro ⟨y, hy, e⟩
    rw [beq_iff_eq.mp e] at hy
    exact ⟨x, yi.mp hy, by simp⟩
  · rintro ⟨y, hy, e⟩
    rw [beq_iff_eq.mp e] at hy
    exact ⟨_, yi.mpr hy, by simp⟩
theorem tw {n : Nat} {xs : List Int} : aB n (bR n xs) = (bR n (aB n xs)).reverse := by
  unfold aB
  conv => lhs; rw [Bn]
  rw [List.filter_reverse]
  congr 1
  unfold bR
  rw [List.filter_map]
  congr 1
  refine List.filter_congr fun x _ => ?_
  show (!(bR n xs).any (· == (n : Int) - 1 - x)) = _
  rw [Aq]
theorem zf {n : Nat} {xs : List Int} (h : xs.length ≠ 0) : bO (bR n xs) = (n : Int) - 1 - bO xs := by
  unfold bO
  rw [gG, dm (by rw [gG]; omega), dm (by omega)]
  simp [bR]
theorem qf {n : Nat} {xs : List Int} (nd : xs.Nodup) (h : xs.length ≠ 0) : (aK (bR n xs)).length + (aK xs).length = xs.length - 1 := by
  unfold aK qX
  rw [List.length_map, List.length_map, gG]
  have e : ((List.range (xs.length - 1)).filter fun i => decide (gI (bR n xs) (i + 1) < gI (bR n xs) i)) = (List.range (xs.length - 1)).filter fun i => !(decide (gI xs (i + 1) < gI xs i)) := by
    refine List.filter_congr fun i hi => ?_
    have hi := List.mem_range.mp hi
    have c1 : ∀ j, j < xs.length -> gI (bR n xs) j = (n : Int) - 1 - gI xs j := fun j hj => by
      rw [dm (by rw [gG]; exact hj), dm hj]; simp [bR]
    rw [c1 _ (by omega), c1 _ (by omega)]
    have ne := List.pairwise_iff_getElem.mp nd i (i + 1) (by omega) (by omega) (by omega)
    rw [<- dm (by omega), <- dm (by omega)] at ne
    by_cases c : gI xs (i + 1) < gI xs i
    · have : ¬ (n : Int) - 1 - gI xs (i + 1) < (n : Int) - 1 - gI xs i := by omega
      simp [c]; omega
    · simp [c]; omega
  rw [e]
  have : ∀ (p : Nat -> Bool) (l : List Nat), (l.filter fun i => !(p i)).length + (l.filter p).length = l.length := by
    intro p l
    induction l with
    | nil => rfl
    | cons a l ih => rw [List.filter_cons, List.filter_cons]; cases p a <;> simp <;> omega
  rw [this (fun i => decide (gI xs (i + 1) < gI xs i)), List.length_range]
theorem B5 {n : Nat} {xs : List Int} (b : Beg n xs) (h : xs.length ≠ 0) : lwI (bR n xs) = ((n - xs.length : Nat) : Int) - lwI xs := by
  rw [<- jr (ve b) (by rw [gG]; exact h), <- jr b h, tw, zf h, <- dO b, List.filter_reverse, List.length_reverse]
  unfold bR
  rw [List.filter_map, List.length_map]
  have : ∀ (l : List Int), (∀ x ∈ l, x ≠ bO xs) -> ((l.filter ((fun x => decide (x < (n : Int) - 1 - bO xs)) ∘ fun x => (n : Int) - 1 - x)).length : Int) = l.length - (l.filter fun x => decide (x < bO xs)).length := by
    intro l
    induction l with
    | nil => intro _; rfl
    | cons a l ih =>
      intro hl
      have ne := hl a List.mem_cons_self
      have ih := ih fun x hx => hl x (List.mem_cons_of_mem _ hx)
      rw [List.filter_cons, List.filter_cons]
      by_cases c : a < bO xs
      · have c2 : ¬ (n : Int) - 1 - a < (n : Int) - 1 - bO xs := by omega
        simp only [Function.comp, c, c2, decide_true, decide_false, if_true, Bool.false_eq_true, if_false, List.length_cons] at ih ⊢
        omega
      · have c2 : (n : Int) - 1 - a < (n : Int) - 1 - bO xs := by omega
        simp only [Function.comp, c, c2, decide_true, decide_false, if_true, Bool.false_eq_true, if_false, List.length_cons] at ih ⊢
        omega
  exact this _ fun x hx e => by
    have := (List.mem_filter.mp hx).2
    rw [e] at this
    have : xs.any (· == bO xs) = true := List.any_eq_true.mpr ⟨_, vZ h, by simp⟩
    simp_all
theorem AY {n : Nat} {k : Int} {xs : List Int} (b : Beg n xs) (h : xs.length ≠ 0) : bcV n ((n : Int) - 1 - k) (bR n xs) = bcV n k xs := by
  unfold bcV
  rw [gG, B5 b h]
  have f := qf (n := n) b.nd h
  have bl := b.len
  rw [<- xO (n - xs.length) (lwI xs)]
  congr 1
  omega
theorem vT {B : List Int -> Int} {xs : List Int} : ∀ {l : List Int}, cT B xs l.reverse = cT B xs l
  | [] => rfl
  | x :: l => by
    rw [List.reverse_cons, vH, bo, vT, bo]
    have : cT B xs [] = 0 := rfl
    omega
theorem vI {n : Nat} {k : Int} {xs : List Int} (b : Beg n xs) : ∀ {l : List Int}, (∀ x ∈ l, x ∈ aB n xs) -> cT (bcV n ((n : Int) - 1 - k)) (bR n xs) (bR n l) = cT (bcV n k) xs l
  | [], _ => rfl
  | x :: l, h => by
    show cT _ _ (((n : Int) - 1 - x) :: bR n l) = _
    rw [bo, bo, vI b fun y hy => h y (List.mem_cons_of_mem _ hy)]
    have := AY (k := k) (b.snoc (h x List.mem_cons_self)) (by simp)
    rw [vE] at this
    rw [<- this]; rfl
theorem pZ {y : Int} : ∀ {l : List Int}, l.Nodup -> y ∈ l -> ∀ (B : List Int -> Int) (xs : List Int), cT B xs (l.filter fun x => decide (x < y)) + B (xs ++ [y]) + cT B xs (l.filter fun x => decide (y < x)) = cT B xs l
  | [], _, h, _, _ => by cases h
  | a :: l, nd, h, B, xs => by
    obtain ⟨n1, n2⟩ := List.nodup_cons.mp nd
    rw [List.filter_cons, List.filter_cons, bo]
    by_cases c : a = y
    · subst c
      have e : ∀ z, (∀ q ∈ l, q ≠ z) -> cT B xs (l.filter fun x => decide (x < z)) + cT B xs (l.filter fun x => decide (z < x)) = cT B xs l := by
        intro z
        clear nd h n1 n2
        induction l with
        | nil => intro _; rfl
        | cons q l ih =>
          intro hz
          have ne := hz q List.mem_cons_self
          have ih := ih fun x hx => hz x (List.mem_cons_of_mem _ hx)
          rw [List.filter_cons, List.filter_cons, bo]
          by_cases d : q < z
          · have d2 : ¬ z < q := by omega
            simp only [d, d2, decide_true, decide_false, if_true, Bool.false_eq_true, if_false, bo]; omega
          · have d2 : z < q := by omega
            simp only [d, d2, decide_true, decide_false, if_true, Bool.false_eq_true, if_false, bo]; omega
      have := e a fun q hq z => n1 (z ▸ hq)
      simp only [Int.lt_irrefl, decide_false, Bool.false_eq_true, if_false]
      omega
    · have hm : y ∈ l := by
        rcases List.mem_cons.mp h with z | z
        · exact absurd z.symm c
        · exact z
      have ih := pZ n2 hm B xs
      by_cases d : a < y
      · have d2 : ¬ y < a := by omega
        simp only [d, d2, decide_true, decide_false, if_true, Bool.false_eq_true, if_false, bo]; omega
      · have d2 : y < a := by omega
        simp only [d, d2, decide_true, decide_false, if_true, Bool.false_eq_true, if_false, bo]; omega
theorem x9 {n : Nat} {k : Int} : ∀ (rest xs : List Int), Beg n (xs ++ rest) -> rkL n (bcV n ((n : Int) - 1 - k)) (bR n xs) (bR n rest) + rkL n (bcV n k) xs rest = bcV n k xs - bcV n k (xs ++ rest)
  | [], xs, b => by show 0 + 0 = _; rw [List.append_nil]; omega
  | y :: rest, xs, b => by
    have e : xs ++ y :: rest = (xs ++ [y]) ++ rest := by simp
    rw [e] at b ⊢
    have ih := x9 (k := k) rest (xs ++ [y]) b
    have bx : Beg n (xs ++ [y]) := by have := b.take (xs ++ [y]).length; rwa [List.take_left' rfl] at this
    have b0 : Beg n xs := by have := bx.take xs.length; rwa [List.take_left' rfl] at this
    have yl : y ∈ aB n xs := by
      refine List.mem_filter.mpr ⟨?_, ?_⟩
      · have := bx.lo y (by simp); have := bx.hi y (by simp)
        exact List.mem_map.mpr ⟨y.toNat, List.mem_range.mpr (by omega), by omega⟩
      · have nd := bx.nd
        rw [List.nodup_append] at nd
        have : xs.any (· == y) = false := by
          rw [List.any_eq_false]; intro z hz q
          exact nd.2.2 z hz y (by simp) (beq_iff_eq.mp q)
        rw [this]; rfl
    have bl := bx.len
    have s := (i4 n k).sum xs b0 (by simp at bl; omega)
    have lp := pZ ((rF n xs).imp fun h => by omega) yl (bcV n k) xs
    show cT (bcV n ((n : Int) - 1 - k)) (bR n xs) ((aB n (bR n xs)).filter fun x => decide (x < (n : Int) - 1 - y)) + rkL n (bcV n ((n : Int) - 1 - k)) (bR n xs ++ [(n : Int) - 1 - y]) (bR n rest) + (cT (bcV n k) xs ((aB n xs).filter fun x => decide (x < y)) + rkL n (bcV n k) (xs ++ [y]) rest) = _
    rw [vE] at ih
    have ih : rkL n (bcV n ((n : Int) - 1 - k)) (bR n xs ++ [(n : Int) - 1 - y]) (bR n rest) + rkL n (bcV n k) (xs ++ [y]) rest = bcV n k (xs ++ [y]) - bcV n k (xs ++ [y] ++ rest) := ih
    have fe : ((aB n (bR n xs)).filter fun x => decide (x < (n : Int) - 1 - y)) = (bR n ((aB n xs).filter fun x => decide (y < x))).reverse := by
      rw [tw, List.filter_reverse]
      congr 1
      unfold bR
      rw [List.filter_map]
      congr 1
      refine List.filter_congr fun x _ => ?_
      show decide ((n : Int) - 1 - x < (n : Int) - 1 - y) = decide (y < x)
      by_cases c : y < x
      · have : (n : Int) - 1 - x < (n : Int) - 1 - y := by omega
        simp [c, this]
      · have : ¬ (n : Int) - 1 - x < (n : Int) - 1 - y := by omega
        simp [c, this]
    rw [fe, vT, vI b0 fun x hx => (List.mem_filter.mp hx).1]
    rw [show ((aB n xs).map fun x => bcV n k (xs ++ [x])).sum = cT (bcV n k) xs (aB n xs) from rfl] at s
    omega
theorem xI {n : Nat} {xs : List Int} {h : Hh} (o : Beg n xs) (h2 : n <= 20) (w : Wf h) : cM [.int n, .tup (xs.map D.int)] h = .ok (.bl true) h := by
  have hl := o.len
  obtain ⟨q, _⟩ := ng (tg := gN 2) (body := dQ (iL (aC mN (ai bS (aa (ag 2) (aa (cC (.int 0)) (aa (ar eT (ag 0) (cC (.int 1))) ak)))))) (bH (cC (.bl false))) bU)
    (fun (s : Option D) => [some (.int n), some (.tup (xs.map D.int)), s]) (fun _ => h) D.int (fun s x => some (.int x)) (fun r s => ∀ x ∈ r, 0 <= x /\ x < n) (fun s x r hr => ⟨fun y hy => hr y (List.mem_cons_of_mem _ hy), .inl (by
      have := hr x List.mem_cons_self
      have z : 0 <= x /\ x <= (n : Int) - 1 := by omega
      simp [z])⟩) xs none (fun x hx => ⟨o.lo x hx, o.hi x hx⟩)
  have c1 : ¬ (n : Int) < xs.length := by omega
  have c5 : ¬ n < xs.length := by omega
  have c3 : xs.length <= 4000 := by omega
  have c4 := pT o.nd
  simp [cM, bF, c1, c5, q, c3, c4]
  exact hX w rfl
theorem pN {n : Nat} {xs : List Int} {h : Hh} (o : Beg n xs) (h2 : n <= 20) (w : Wf h) : bz [.int n, .tup (xs.map D.int)] h = .ok .non h := by
  simp [bz, bF, xI o h2 w]
theorem rR {n k : Nat} {xs : List Int} {h : Hh} (o : Beg n xs) (h1 : 1 <= n) (hn : n <= 12) (hk : k <= 12) (w : Wf h) : ba [.int n, .int k, .tup (xs.map D.int)] h = .ok (.int (bcV n k xs)) h := by
  have a := lB (h := h) h1 hn hk
  have b := pN o (by omega) w
  have c := sS (n := n) (h := h) hn w
  have d := BX (k := (k : Int)) (h := h) o hn
  generalize xs.map D.int = X at *
  generalize rsD n = RN at *
  simp [ba, bF, a, b, c, d]
theorem CJ {n : Nat} {k : Int} {xs : List Int} (b : Beg n xs) : (nxI n k xs).length <= n := by
  have := List.length_filter_le (fun x => decide (0 < bcV n k (xs ++ [x]))) (aB n xs)
  rw [dO b] at this
  unfold nxI; omega
theorem Ab {n k : Nat} {xs : List Int} {h : Hh} (o : Beg n xs) (h1 : 1 <= n) (hn : n <= 12) (hk : k <= 12) (w : Wf h) : cm [.int n, .int k, .tup (xs.map D.int)] h = .ok (.frl ((nxI n k xs).map D.int)) h := by
  have a := lB (h := h) h1 hn hk
  have b := pN o (by omega) w
  have c := ju (n := n) (k := (k : Int)) (h := h) hn w
  have d := yw (k := (k : Int)) (h := h) o hn
  have q : cL tt1 (ar dIx (ag 0) (cUn lT (cC (.int 1)))) (fun x => [some x]) ((nxI n k xs).map fun x => tpl (xs ++ [x])) h = .ok ((nxI n k xs).map D.int) h :=
    k4 (fun x => tpl (xs ++ [x])) D.int (nxI n k xs) fun x hx => by
      have e : (xs ++ [x]).map D.int = xs.map D.int ++ [D.int x] := by simp
      simp [tpl, e]
  have l1 : ((nxI n k xs).map fun x => tpl (xs ++ [x])).length <= 1000000 := by rw [List.length_map]; have := CJ (k := (k : Int)) o; omega
  generalize ((nxI n k xs).map fun x => tpl (xs ++ [x])) = W at *
  generalize (nxI n k xs).map D.int = W2 at *
  generalize xs.map D.int = X at *
  generalize rsD n = RN at *
  simp [cm, bF, a, b, c, d, l1, q]
noncomputable def W0 : MS := (aG (bB 13 (ai fw (aa (ag 11) ak))) (aG (dQ (t8 (aC asB (ar dNe (ai cV (aa (ag 11) ak)) (ag 10))) (t8 (aC asB (ar dNe (ai cD (aa (ag 11) ak)) (ag 5))) (aC asB (ar dNe (ai cD (aa (ag 13) ak)) (ar eT (ar eT (ag 3) (cC (.int 1))) (ag 5)))))) (bH (cC (.bl false))) bU) (aG (dQ (aC asB (ar dNe (ai cV (aa (ag 13) ak)) (ar eT (ar eT (ag 9) (cC (.int 1))) (ag 10)))) (bH (cC (.bl false))) bU) (aG (bB 11 (ai cZ (aa (ag 11) ak))) (bB 10 (ar (dG bh) (ag 10) (cC (.int 1))))))))
noncomputable def B1 : MS := (aG (bB 2 (ai cH (aa (ag 1) ak))) (aG (bB 3 (ar (dG bh) (cC (.int 1)) (ai aD (aa (ag 2) (aa (cC (.int 10)) ak))))) (aG (xq 4 5 (ai hG (aa (ai aD (aa (ag 2) (aa (ag 3) ak))) (aa (ai aD (aa (ag 2) (aa (ag 3) ak))) ak)))) (aG (bB 6 (iD bh (ai cG (aa (ag 2) (aa (ag 3) ak))) hJ (jn (ag 4)))) (aG (bB 7 (cW bh (iQ jo (aa (ag 3) ak)) [6] (aC asB (ar (dIn true) (ag 0) (ag 1))) (ag 0))) (aG (bB 8 (cW bh (fH (ag 7)) [3, 5, 6] tt1 (ai ba (aa (ag 1) (aa (ag 2) (aa (ar (dG bh) (ag 3) (ai hG (aa (ag 0) ak))) ak)))))) (aG (dQ (aC asB (ar dNe (ai rg (aa (ag 8) ak)) (ai ba (aa (ag 3) (aa (ag 5) (aa (ag 6) ak)))))) (bH (cC (.bl false))) bU) (aG (dQ (aC asB (ar dNe (ai cm (aa (ag 3) (aa (ag 5) (aa (ag 6) ak)))) (cW bh (sL (aa (ag 7) (aa (ag 8) ak))) [] (unp (aC asB (ar dGt (ag 1) (cC (.int 0))))) (unp (ag 0))))) (bH (cC (.bl false))) bU) (aG (bB 9 (ai ba (aa (ag 3) (aa (ag 5) (aa (ai hG ak) ak))))) (aG (bB 10 (ai aD (aa (ag 2) (aa (ag 9) ak)))) (aG (bB 11 (ai eK (aa (ag 3) (aa (ag 5) (aa (ag 10) ak))))) (aG (bB 12 (ar (dG bh) (ag 10) (cC (.int 4)))) (aG (oB 64 (jU (aC asB (ar (mG true) (ag 11) (cC .non))) (aC asB (ar dLt (ag 10) (ag 12)))) W0) (dQ (jU (aC asB (ar (mG false) (ag 11) (cC .non))) (aC asB (ar dNe (ag 10) (ag 9)))) (bH (cC (.bl false))) bU))))))))))))))
theorem xW : oF = fun ds h => ((c_ 14 (aG (fY (fH (ar (dG bh) (ai (lP bh) (aa (ai b_ (aa (ag 0) (aa (cC (.int 0)) ak))) ak)) (iD bh (ag 0) (jn (cC (.int 1))) (jn (cC (.int 2)))))) (gN 1) B1) (bH (cC (.bl true))))) ds h).bind (eZ h) := rfl
noncomputable def xp : Prop := ∀ (ns : List Int) (c : Int) (y2 y3 y4 y5 y6 y7 y8 y9 y10 y11 y12 y13 : Option D) (h : Hh), Wf h -> Ok (B1 [some (.scr (ns.map D.int)), some (.int c), y2, y3, y4, y5, y6, y7, y8, y9, y10, y11, y12, y13] h) fun fl h2 => ∃ z2 z3 z4 z5 z6 z7 z8 z9 z10 z11 z12 z13, fl = .nx [some (.scr (ns.map D.int)), some (.int c), z2, z3, z4, z5, z6, z7, z8, z9, z10, z11, z12, z13] /\ Wf h2
theorem CB (step : xp) (ns : List Int) (hl : ns.length <= 63) : ∃ h, oF [.scr (ns.map D.int)] [] = .ok (.bl true) h := by
  have key : Ok (ff (gN 1) B1 (((ns.headD 0) :: pw ns (some 1) (some 2)).map D.int) [some (.scr (ns.map D.int)), none, none, none, none, none, none, none, none, none, none, none, none, none] []) fun fl h2 => (∃ e, fl = .nx e) /\ Wf h2 := by
    refine qC D.int (fun e h => (∃ y1 y2 y3 y4 y5 y6 y7 y8 y9 y10 y11 y12 y13, e = [some (.scr (ns.map D.int)), y1, y2, y3, y4, y5, y6, y7, y8, y9, y10, y11, y12, y13]) /\ Wf h) _ _ _ ⟨⟨_, _, _, _, _, _, _, _, _, _, _, _, _, rfl⟩, Wf.nil⟩ (fun x e h _ ⟨⟨y1, y2, y3, y4, y5, y6, y7, y8, y9, y10, y11, y12, y13, e1⟩, w⟩ => ?_) (fun e h ⟨_, w⟩ => ⟨⟨_, rfl⟩, w⟩)
    subst e1
    simp only [Fs, fF, List.set]
    refine (step ns x y2 y3 y4 y5 y6 y7 y8 y9 y10 y11 y12 y13 h w).mono fun fl h2 ⟨z2, z3, z4, z5, z6, z7, z8, z9, z10, z11, z12, z13, e2, w2⟩ => ?_
    subst e2
    exact ⟨⟨_, _, _, _, _, _, _, _, _, _, _, _, _, rfl⟩, w2⟩
  obtain ⟨fl, h2, e, ⟨e', rfl⟩, w⟩ := key
  have cl := Az ns (some 1) (some 2)
  have c1 : 1 + (pw ns (some 1) (some 2)).length <= 1000000 := by omega
  have ex : eZ [] (.bl true) h2 = .ok (.bl true) [] := by
    have := hX (h := []) (t := h2) (d := .bl true) Wf.nil rfl
    simpa using this
  refine ⟨[], ?_⟩
  have e2 : ff (gN 1) B1 (D.int (ns.headD 0) :: (pw ns (some 1) (some 2)).map D.int) [some (.scr (ns.map D.int)), none, none, none, none, none, none, none, none, none, none, none, none, none] [] = .ok (.nx e') h2 := e
  rw [xW]
  simp [bF, wo, c1, e2, ex, -List.headD_eq_head?_getD]
theorem A4 {n : Nat} {xs : List Int} (o : Ord n xs) : Ord n (bR n xs) := by
  have b := ve o.beg
  exact ⟨by rw [gG, o.len], b.nd, b.lo, b.hi⟩
theorem uY {n : Nat} {xs : List Int} {h : Hh} (o : Ord n xs) (h1 : 1 <= n) (h2 : n <= 20) (w : Wf h) : fw [.tup (xs.map D.int)] h = .ok (.tup ((bR n xs).map D.int)) h := by
  have q : cL tt1 (ar eT (ar eT (ai ck (aa (ag 1) ak)) (cC (.int 1))) (ag 0)) (fun d => [some d, some (.tup (xs.map D.int))]) (xs.map D.int) h = .ok ((bR n xs).map D.int) h := by
    rw [k4 D.int (fun x => D.int ((n : Int) - 1 - x)) xs (fun x hx => by simp [o.len])]
    simp [bR]
  have z : n <= 1000000 := by omega
  simp [fw, bF, k_ o h1 h2 w, o.len, z, q]
theorem vo {n : Nat} {xs : List Int} {h : Hh} (o : Ord n xs) (h1 : 1 <= n) (h2 : n <= 20) (w : Wf h) : cD [.tup (xs.map D.int)] h = .ok (.int ((aK xs).length : Int)) h := by
  have a := k_ o h1 h2 w
  have f := kX (xs := xs) (h := h) (by rw [o.len]; omega)
  simp [cD, iu, bF, a, f]
noncomputable def OrN (n k : Nat) (t : Int) (od : D) : Prop := (od = .non /\ t = bcV n k []) \/ ∃ os, od = .tup (os.map D.int) /\ Ord n os /\ (aK os).length = k /\ rkL n (bcV n k) [] os = t /\ 0 <= t /\ t < bcV n k []
noncomputable def WC : MT := (jU (aC asB (ar (mG true) (ag 11) (cC .non))) (aC asB (ar dLt (ag 10) (ag 12))))
theorem C9 {n k : Nat} {os : List Int} {t : Int} {h : Hh} {d0 d1 d2 d4 d6 d7 d8 d12 d13 : Option D} (o : Ord n os) (hf : (aK os).length = k) (hr : rkL n (bcV n k) [] os = t) (t0 : 0 <= t) (t1 : t < bcV n k []) (h1 : 1 <= n) (hn : n <= 12) (w : Wf h) :
    ∃ od z13, OrN n k (t + 1) od /\ W0 [d0, d1, d2, some (.int n), d4, some (.int k), d6, d7, d8, some (.int (bcV n k [])), some (.int t), some (.tup (os.map D.int)), d12, d13] h = .ok (.nx [d0, d1, d2, some (.int n), d4, some (.int k), d6, d7, d8, some (.int (bcV n k [])), some (.int (t + 1)), some od, d12, z13]) h := by
  have co := uY o h1 (by omega) w
  have oc := A4 o
  have n1 := BG o h1 hn w
  have n2 := BG oc h1 hn w
  have f1 := vo o h1 (by omega) w
  have f2 := vo oc h1 (by omega) w
  have ol := o.len
  have fc := qf (n := n) o.nd (by omega)
  have fc2 : ((aK (bR n os)).length : Int) = (n : Int) - 1 - k := by omega
  have rc := x9 (n := n) (k := (k : Int)) os [] o.beg
  rw [List.nil_append, rS ol, if_pos (by rw [hf])] at rc
  rw [fc2] at n2 f2
  have e2 : rkL n (bcV n ((n : Int) - 1 - k)) [] (bR n os) = bcV n k [] - 1 - t := by
    have : bR n [] = [] := rfl
    rw [this] at rc
    omega
  rw [e2] at n2
  rw [hf, hr] at n1
  rw [hf] at f1
  have nx := zT o h1 hn w
  rw [hf, hr] at nx
  by_cases z : t + 1 = bcV n k []
  · rw [if_pos z] at nx
    refine ⟨.non, some (.tup ((bR n os).map D.int)), .inl ⟨rfl, z⟩, ?_⟩
    generalize bcV n (k : Int) [] = V at *
    generalize (bR n os).map D.int = C1 at *
    generalize os.map D.int = X at *
    simp [W0, co, n1, f1, f2, n2, nx]
  · rw [if_neg z] at nx
    obtain ⟨xs, ex, ox, fx, rx⟩ := zy (n := n) (k := (k : Int)) (t := t + 1) (by omega) (by omega)
    rw [ex] at nx
    refine ⟨.tup (xs.map D.int), some (.tup ((bR n os).map D.int)), .inr ⟨xs, rfl, ox, by omega, rx, by omega, by omega⟩, ?_⟩
    generalize bcV n (k : Int) [] = V at *
    generalize (bR n os).map D.int = C1 at *
    generalize os.map D.int = X at *
    generalize xs.map D.int = X2 at *
    simp [W0, co, n1, f1, f2, n2, nx]
theorem Dp {n k : Nat} {l : Int} {h : Hh} {d0 d1 d2 d4 d6 d7 d8 : Option D} (h1 : 1 <= n) (hn : n <= 12) (w : Wf h) : ∀ (j f : Nat) (t : Int) (od : D) (y13 : Option D), j < f -> l - t <= j -> OrN n k t od →
    ∃ t' od' z13, OrN n k t' od' /\ gT WC W0 f [d0, d1, d2, some (.int n), d4, some (.int k), d6, d7, d8, some (.int (bcV n k [])), some (.int t), some od, some (.int l), y13] h = .ok (.nx [d0, d1, d2, some (.int n), d4, some (.int k), d6, d7, d8, some (.int (bcV n k [])), some (.int t'), some od', some (.int l), z13]) h
  | j, 0, t, od, y13, hf, hj, ho => by omega
  | j, f + 1, t, od, y13, hf, hj, ho => by
    rcases ho with ⟨rfl, e⟩ | ⟨os, rfl, o, hfa, hr, t0, t1⟩
    · refine ⟨t, .non, y13, .inl ⟨rfl, e⟩, ?_⟩
      unfold gT
      simp [WC, i7]
    · by_cases c : t < l
      · obtain ⟨od, z13, g, e⟩ := C9 (d0 := d0) (d1 := d1) (d2 := d2) (d4 := d4) (d6 := d6) (d7 := d7) (d8 := d8) (d12 := some (.int l)) (d13 := y13) o hfa hr t0 t1 h1 hn w
        cases j with
        | zero => omega
        | succ j =>
          obtain ⟨t', od', u13, g2, e2⟩ := Dp (l := l) (d0 := d0) (d1 := d1) (d2 := d2) (d4 := d4) (d6 := d6) (d7 := d7) (d8 := d8) h1 hn w j f (t + 1) od z13 (by omega) (by omega) g
          refine ⟨t', od', u13, g2, ?_⟩
          unfold gT
          have cc : WC [d0, d1, d2, some (.int n), d4, some (.int k), d6, d7, d8, some (.int (bcV n k [])), some (.int t), some (.tup (os.map D.int)), some (.int l), y13] h = .ok true h := by simp [WC, i7, c]
          rw [cc, fF, if_pos rfl, e, fF]
          exact e2
      · refine ⟨t, .tup (os.map D.int), y13, .inr ⟨os, rfl, o, hfa, hr, t0, t1⟩, ?_⟩
        unfold gT
        have cc : WC [d0, d1, d2, some (.int n), d4, some (.int k), d6, d7, d8, some (.int (bcV n k [])), some (.int t), some (.tup (os.map D.int)), some (.int l), y13] h = .ok false h := by simp [WC, i7, c]
        rw [cc]; rfl
theorem uP {n : Nat} {xs : List Int} {h : Hh} : cL (aC asB (ar (dIn true) (ag 0) (ag 1))) (ag 0) (fun x => [some x, some (.tup (xs.map D.int))]) (cA 0 n) h = .ok ((aB n xs).map D.int) h := by
  rw [qU, comp_map D.int (fun x => !(xs.any (· == x))) D.int (eV 0 n) fun x hx => ⟨by simp, fun _ => by simp⟩]
  rfl
theorem pR {n : Nat} {k : Int} {xs : List Int} : ∀ l : List Int, jF (l.map D.int) (l.map fun x => D.int (bcV n k (xs ++ [x]))) = l.map fun x => D.tup [.int x, .int (bcV n k (xs ++ [x]))]
  | [] => rfl
  | x :: l => by
    have ih := pR (n := n) (k := k) (xs := xs) l
    simp only [List.map_cons]
    rw [<- ih]; rfl
theorem zU : xp := by
  intro ns c y2 y3 y4 y5 y6 y7 y8 y9 y10 y11 y12 y13 h w
  obtain ⟨b, eb, hb⟩ := vY (sC c) 10 (by decide)
  have d10 := m9 (p := sC c) (h := h) (t := []) (m := 10) (by decide)
  rw [eb] at d10
  generalize gA (sC c) 10 = p2 at d10
  obtain ⟨n, hn⟩ : ∃ n : Nat, 1 + (b : Int) = n := ⟨1 + b, by omega⟩
  have h1 : 1 <= n := by omega
  have h2 : n <= 12 := by omega
  obtain ⟨sz, es, bs⟩ := vY p2 n (by omega)
  have dS := m9 (p := p2) (h := h) (t := []) (m := n) (by omega)
  rw [es] at dS
  generalize gA p2 n = p3 at dS
  obtain ⟨k, ek, bk⟩ := vY p3 n (by omega)
  have dk := m9 (p := p3) (h := h) (t := []) (m := n) (by omega)
  rw [ek] at dk
  generalize gA p3 n = p4 at dk
  have o1 := xC (p := p4) (k := n) w (by omega)
  have r1 := zm p4 n
  generalize mw p4 n = v1 at o1 r1
  generalize oY p4 n = p5 at o1
  have w5 := uV w p5
  have B : Beg n (v1.take sz) := r1.beg.take sz
  have bL : (v1.take sz).length < n := by rw [List.length_take, r1.len]; omega
  have ct2 : cutD (v1.map D.int) none (some (sz : Int)) = (v1.take sz).map D.int := by rw [oU, vi]
  obtain ⟨xs, hx⟩ : ∃ xs, v1.take sz = xs := ⟨_, rfl⟩
  rw [hx] at B bL ct2
  have q1 := uP (n := n) (xs := xs) (h := h ++ [.lst (cF p5)])
  have q2 : cL tt1 (ai ba (aa (ag 1) (aa (ag 2) (aa (ar (dG bh) (ag 3) (ai hG (aa (ag 0) ak))) ak)))) (fun x => [some x, some (.int n), some (.int k), some (.tup (xs.map D.int))]) ((aB n xs).map D.int) (h ++ [.lst (cF p5)]) = .ok ((aB n xs).map fun x => D.int (bcV n k (xs ++ [x]))) (h ++ [.lst (cF p5)]) :=
    k4 D.int (fun x => D.int (bcV n k (xs ++ [x]))) (aB n xs) fun x hx => by
      have e := rR (k := k) (B.snoc hx) h1 h2 (by omega) w5
      have ex : (xs ++ [x]).map D.int = xs.map D.int ++ [.int x] := by simp
      rw [ex] at e
      have z : (xs.map D.int).length + 1 <= 1000000 := by rw [List.length_map]; omega
      generalize xs.map D.int = X at *
      simp [z, e]
  have lm : ((aB n xs).map fun x => D.int (bcV n k (xs ++ [x]))) = ((aB n xs).map fun x => bcV n k (xs ++ [x])).map D.int := by rw [List.map_map]; rfl
  have sm := (i4 n k).sum xs B bL
  have bm := rR (k := k) B h1 h2 (by omega) w5
  have b0 := rR (k := k) (Beg.nil n) h1 h2 (by omega) w5
  rw [List.map_nil] at b0
  have nf := Ab (k := k) B h1 h2 (by omega) w5
  have zp := pR (n := n) (k := (k : Int)) (xs := xs) (aB n xs)
  have q3 : cL (unp (aC asB (ar dGt (ag 1) (cC (.int 0))))) (unp (ag 0)) (fun x => [some x]) (jF ((aB n xs).map D.int) ((aB n xs).map fun x => D.int (bcV n k (xs ++ [x])))) (h ++ [.lst (cF p5)]) = .ok ((nxI n k xs).map D.int) (h ++ [.lst (cF p5)]) := by
    rw [zp, comp_map (fun x => D.tup [.int x, .int (bcV n k (xs ++ [x]))]) (fun x => decide (0 < bcV n k (xs ++ [x]))) D.int (aB n xs) fun x hx => ⟨by simp, fun _ => by simp⟩]
    rfl
  have ne : dNe (.frl ((nxI n k xs).map D.int)) (.frl ((nxI n k xs).map D.int)) (h ++ [.lst (cF p5)]) = .ok (.bl false) (h ++ [.lst (cF p5)]) := by
    have e : eqD eqN (h ++ [.lst (cF p5)]) (.frl ((nxI n k xs).map D.int)) (.frl ((nxI n k xs).map D.int)) = some true := by
      show (if ((nxI n k xs).map D.int).length = ((nxI n k xs).map D.int).length then eqL (eqD (10 + 1) _) ((nxI n k xs).map D.int) ((nxI n k xs).map D.int) else some false) = some true
      rw [if_pos rfl, pM]; simp
    simp only [dNe, e]; rfl
  have bp := BL (n := n) (k := k) (by omega)
  have bl := Dv (n := n) (k := (k : Int)) (xs := []) h2
  obtain ⟨t, et, bt⟩ := vY p5 (bcV n k []) bp
  have dt := m9 (p := p5) (h := h) (t := []) (m := bcV n k []) ⟨bp, bl⟩
  rw [et] at dt
  generalize gA p5 (bcV n k []) = p6 at dt
  have w6 := uV w p6
  obtain ⟨os, eo, oo, fo, ro⟩ := zy (n := n) (k := (k : Int)) (t := (t : Int)) (by omega) bt
  have oa := D6 (k := k) (t := (t : Int)) h1 h2 (by omega) (by omega) bt w6
  rw [eo] at oa
  obtain ⟨t', od, z13, g, wh⟩ := Dp (n := n) (k := k) (l := (t : Int) + 4) (d0 := some (.scr (ns.map D.int))) (d1 := some (.int c)) (d2 := some (.ref h.length)) (d4 := some (.int sz)) (d6 := some (.tup (xs.map D.int))) (d7 := some (.frl ((aB n xs).map D.int))) (d8 := some (.frl ((aB n xs).map fun x => D.int (bcV n k (xs ++ [x]))))) h1 h2 w6 4 64 (t : Int) (.tup (os.map D.int)) y13 (by omega) (by omega) (.inr ⟨os, rfl, oo, by omega, ro, by omega, bt⟩)
  have z2 : (n : Int).natAbs <= 1000000 := by omega
  have z3 : n <= 1000000 := by omega
  have l2 : ((aB n xs).map D.int).length <= 1000000 := by rw [List.length_map, dO B]; omega
  have dsm : rg [.frl ((aB n xs).map fun x => D.int (bcV n k (xs ++ [x])))] (h ++ [.lst (cF p5)]) = .ok (.int (bcV n k xs)) (h ++ [.lst (cF p5)]) := by
    rw [lm, sm]
    generalize ((aB n xs).map fun x => bcV n k (xs ++ [x])) = L9
    simp
  refine ⟨.nx [some (.scr (ns.map D.int)), some (.int c), some (.ref h.length), some (.int n), some (.int sz), some (.int k), some (.tup (xs.map D.int)), some (.frl ((aB n xs).map D.int)), some (.frl ((aB n xs).map fun x => D.int (bcV n k (xs ++ [x])))), some (.int (bcV n k [])), some (.int t'), some od, some (.int ((t : Int) + 4)), z13], h ++ [.lst (cF p6)], ?_, ⟨_, _, _, _, _, _, _, _, _, _, _, _, rfl, w6⟩⟩
  have lz : (jF ((aB n xs).map D.int) ((aB n xs).map fun x => D.int (bcV n k (xs ++ [x])))).length <= 1000000 := by rw [zp, List.length_map, dO B]; omega
  clear sm lm zp
  generalize ((aB n xs).map fun x => D.int (bcV n k (xs ++ [x]))) = W2 at *
  generalize (aB n xs).map D.int = W1 at *
  generalize (nxI n k xs).map D.int = W3 at *
  generalize bcV n (k : Int) xs = VX at *
  have fin : (dQ (jU (aC asB (ar (mG false) (ag 11) (cC .non))) (aC asB (ar dNe (ag 10) (ag 9)))) (bH (cC (.bl false))) bU) [some (.scr (ns.map D.int)), some (.int c), some (.ref h.length), some (.int n), some (.int sz), some (.int k), some (.tup (xs.map D.int)), some (.frl W1), some (.frl W2), some (.int (bcV n k [])), some (.int t'), some od, some (.int ((t : Int) + 4)), z13] (h ++ [.lst (cF p6)]) = .ok (.nx [some (.scr (ns.map D.int)), some (.int c), some (.ref h.length), some (.int n), some (.int sz), some (.int k), some (.tup (xs.map D.int)), some (.frl W1), some (.frl W2), some (.int (bcV n k [])), some (.int t'), some od, some (.int ((t : Int) + 4)), z13]) (h ++ [.lst (cF p6)]) := by
    rcases g with ⟨rfl, e⟩ | ⟨os', rfl, _⟩
    · rw [e]; simp [i7]
    · simp [i7]
  generalize bcV n (k : Int) [] = V at *
  generalize xs.map D.int = X at *
  generalize os.map D.int = X2 at *
  generalize v1.map D.int = V1 at *
  have b1eq : B1 = (aG (bB 2 (ai cH (aa (ag 1) ak))) (aG (bB 3 (ar (dG bh) (cC (.int 1)) (ai aD (aa (ag 2) (aa (cC (.int 10)) ak))))) (aG (xq 4 5 (ai hG (aa (ai aD (aa (ag 2) (aa (ag 3) ak))) (aa (ai aD (aa (ag 2) (aa (ag 3) ak))) ak)))) (aG (bB 6 (iD bh (ai cG (aa (ag 2) (aa (ag 3) ak))) hJ (jn (ag 4)))) (aG (bB 7 (cW bh (iQ jo (aa (ag 3) ak)) [6] (aC asB (ar (dIn true) (ag 0) (ag 1))) (ag 0))) (aG (bB 8 (cW bh (fH (ag 7)) [3, 5, 6] tt1 (ai ba (aa (ag 1) (aa (ag 2) (aa (ar (dG bh) (ag 3) (ai hG (aa (ag 0) ak))) ak)))))) (aG (dQ (aC asB (ar dNe (ai rg (aa (ag 8) ak)) (ai ba (aa (ag 3) (aa (ag 5) (aa (ag 6) ak)))))) (bH (cC (.bl false))) bU) (aG (dQ (aC asB (ar dNe (ai cm (aa (ag 3) (aa (ag 5) (aa (ag 6) ak)))) (cW bh (sL (aa (ag 7) (aa (ag 8) ak))) [] (unp (aC asB (ar dGt (ag 1) (cC (.int 0))))) (unp (ag 0))))) (bH (cC (.bl false))) bU) (aG (bB 9 (ai ba (aa (ag 3) (aa (ag 5) (aa (ai hG ak) ak))))) (aG (bB 10 (ai aD (aa (ag 2) (aa (ag 9) ak)))) (aG (bB 11 (ai eK (aa (ag 3) (aa (ag 5) (aa (ag 10) ak))))) (aG (bB 12 (ar (dG bh) (ag 10) (cC (.int 4)))) (aG (oB 64 WC W0) (dQ (jU (aC asB (ar (mG false) (ag 11) (cC .non))) (aC asB (ar dNe (ag 10) (ag 9)))) (bH (cC (.bl false))) bU)))))))))))))) := rfl
  rw [b1eq]
  simp only [DO, zb] at fin ⊢
  simp [d10, hn, dS, dk, o1, ct2, z2, z3, q1, l2, q2, dsm, bm, nf, lz, q3, ne, b0, dt, oa, wh]
  simpa using fin
theorem C4 (ns : List Int) (hl : ns.length <= 63) : ∃ h, oF [.scr (ns.map D.int)] [] = .ok (.bl true) h := CB zU ns hl
end FC
open PySem PySem.W PyProof.Rows
local macro_rules | `(tactic| o_head $H) => `(tactic| (refine holds_open (q := FC.Q) (loose := []) (Xt := (fun s => xlAt FC.Q [] s && recOk (RowW.records (OpenRow.toRowW (OpenLaw.row PySem.Challenge.rw_fallcounts_k25_whole_numbers_of_orders))) s)) (XP := XL FC.Q []) (Yf := Hook.obs $H) (Ya := Hook.val $H) (YP := Hook.says $H) (N := 4292) (L2.FE.wR (by decide) (by kernel_rfl) (fun _ => by kernel_rfl) FC.Dl FC.Em (fun w os => by kernel_rfl)) (Hook.of $H) (Hook.keeps $H) (fun s e => xl_of s (Bool.and_eq_true_iff.mp e).1) XL.keeps (by rfl) (by rfl) (by rfl) (fun s e => recFacts_of (Bool.and_eq_true_iff.mp e).2) (by rfl) (by first | assumption | decide +kernel) (by decide +kernel) ⟨rfl, rfl, rfl, rfl, rfl, by decide +kernel⟩ ?hw ?hc))
set_option maxRecDepth 100000 in
set_option maxHeartbeats 0 in
theorem PySem.Challenge.cw_fallcounts_k25_whole_numbers_of_orders_holds : PySem.Challenge.rw_fallcounts_k25_whole_numbers_of_orders.Holds := by
  w_on; o_law; k_head; w_witness2
  k_fill
  refine FC.walk (l := PySem.Challenge.rw_fallcounts_k25_whole_numbers_of_orders) rfl rfl (fun w h Y => by first | exact PySem.W.kIn_of Y | exact PySem.W.km_in_of Y) (fun w h Y => PySem.W.km_tabs_of Y) (fun _ => by kernel_rfl) FC.C4 ?F
  case F =>
    intro w mg fa h KX G hmg
    refine FC.all_mk KX G hmg (by kernel_rfl) ?T
    case T =>
      refine' ⟨?fZ, ?gM, ?iY, ?jl, ?ik, ?kg, ?jf, ?fJ, ?fC, ?fm, ?eJ, ?iF, ?kf, ?gL, ?gP, ?j0, ?hZ, ?gR, ?ib, ?gh, ?fu, ?j7, ?h7, ?gu, ?jW, ?fN, ?f9, ?i3, ?kz, ?h8, ?iK, ?zo, ?ur, ?iU, ?xM, ?iC, ?zg, ?uO, ?yO, ?qI, ?xy, ?yj, ?qF, ?yH, ?d9, ?dN, ?aV⟩
      (case fZ => refine' L2.FE.bq ?a ?l ?c ?k; (case a => k_is); (case l => k_is); (case c => k_is); (case k => k_is))
      (case gM => refine' L2.FE.bq ?a ?l ?c ?k; (case a => k_is); (case l => k_is); (case c => k_is); (case k => k_is))
      (case iY => refine' L2.FE.bq ?a ?l ?c ?k; (case a => k_is); (case l => k_is); (case c => k_is); (case k => k_is))
      (case jl => refine' L2.FE.bq ?a ?l ?c ?k; (case a => k_is); (case l => k_is); (case c => k_is); (case k => k_is))
      (case ik => refine' L2.FE.bq ?a ?l ?c ?k; (case a => k_is); (case l => k_is); (case c => k_is); (case k => k_is))
      (case kg => refine' L2.FE.bq ?a ?l ?c ?k; (case a => k_is); (case l => k_is); (case c => k_is); (case k => k_is))
      (case jf => refine' L2.FE.bq ?a ?l ?c ?k; (case a => k_is); (case l => k_is); (case c => k_is); (case k => k_is))
      (case fJ => refine' L2.FE.bq ?a ?l ?c ?k; (case a => k_is); (case l => k_is); (case c => k_is); (case k => k_is))
      (case fC => refine' L2.FE.bq ?a ?l ?c ?k; (case a => k_is); (case l => k_is); (case c => k_is); (case k => k_is))
      (case fm => refine' L2.FE.bq ?a ?l ?c ?k; (case a => k_is); (case l => k_is); (case c => k_is); (case k => k_is))
      (case eJ => refine' L2.FE.bq ?a ?l ?c ?k; (case a => k_is); (case l => k_is); (case c => k_is); (case k => k_is))
      (case iF => refine' L2.FE.bq ?a ?l ?c ?k; (case a => k_is); (case l => k_is); (case c => k_is); (case k => k_is))
      (case kf => refine' L2.FE.bq ?a ?l ?c ?k; (case a => k_is); (case l => k_is); (case c => k_is); (case k => k_is))
      (case gL => refine' L2.FE.bq ?a ?l ?c ?k; (case a => k_is); (case l => k_is); (case c => k_is); (case k => k_is))
      (case gP => refine' L2.FE.bq ?a ?l ?c ?k; (case a => k_is); (case l => k_is); (case c => k_is); (case k => k_is))
      (case j0 => refine' L2.FE.bq ?a ?l ?c ?k; (case a => k_is); (case l => k_is); (case c => k_is); (case k => k_is))
      (case hZ => refine' L2.FE.bq ?a ?l ?c ?k; (case a => k_is); (case l => k_is); (case c => k_is); (case k => k_is))
      (case gR => refine' L2.FE.bq ?a ?l ?c ?k; (case a => k_is); (case l => k_is); (case c => k_is); (case k => k_is))
      (case ib => refine' L2.FE.bq ?a ?l ?c ?k; (case a => k_is); (case l => k_is); (case c => k_is); (case k => k_is))
      (case gh => refine' L2.FE.bq ?a ?l ?c ?k; (case a => k_is); (case l => k_is); (case c => k_is); (case k => k_is))
      (case fu => refine' L2.FE.bq ?a ?l ?c ?k; (case a => k_is); (case l => k_is); (case c => k_is); (case k => k_is))
      (case j7 => refine' L2.FE.bq ?a ?l ?c ?k; (case a => k_is); (case l => k_is); (case c => k_is); (case k => k_is))
      (case h7 => refine' L2.FE.bq ?a ?l ?c ?k; (case a => k_is); (case l => k_is); (case c => k_is); (case k => k_is))
      (case gu => refine' L2.FE.bq ?a ?l ?c ?k; (case a => k_is); (case l => k_is); (case c => k_is); (case k => k_is))
      (case jW => refine' L2.FE.bq ?a ?l ?c ?k; (case a => k_is); (case l => k_is); (case c => k_is); (case k => k_is))
      (case fN => refine' L2.FE.bq ?a ?l ?c ?k; (case a => k_is); (case l => k_is); (case c => k_is); (case k => k_is))
      (case f9 => refine' L2.FE.bq ?a ?l ?c ?k; (case a => k_is); (case l => k_is); (case c => k_is); (case k => k_is))
      (case i3 => refine' L2.FE.bq ?a ?l ?c ?k; (case a => k_is); (case l => k_is); (case c => k_is); (case k => k_is))
      (case kz => refine' L2.FE.bq ?a ?l ?c ?k; (case a => k_is); (case l => k_is); (case c => k_is); (case k => k_is))
      (case h8 => refine' L2.FE.bq ?a ?l ?c ?k; (case a => k_is); (case l => k_is); (case c => k_is); (case k => k_is))
      (case iK => refine' L2.FE.bq ?a ?l ?c ?k; (case a => k_is); (case l => k_is); (case c => k_is); (case k => k_is))
      (case zo => refine' L2.FE.bq ?a ?l ?c ?k; (case a => k_is); (case l => k_is); (case c => k_is); (case k => k_is))
      (case ur => k_is)
      (case iU => k_is)
      (case xM => k_is)
      (case iC => k_is)
      (case zg => k_is)
      (case uO => k_is)
      (case yO => k_is)
      (case qI => k_is)
      (case xy => k_is)
      (case yj => k_is)
      (case qF => k_is)
      (case yH => k_is)
      (case d9 => exact ⟨_, rfl⟩)
      (case dN => exact ⟨_, rfl⟩)
      (case aV => refine' L2.FE.DY ?a ?l ?c ?k ?h1 ?h2 ?h3; (case a => k_is); (case l => k_is); (case c => k_is); (case k => k_is); (case h1 => kernel_rfl); (case h2 => kernel_rfl); (case h3 => kernel_rfl))
