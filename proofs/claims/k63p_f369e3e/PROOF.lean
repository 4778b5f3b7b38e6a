import PyProof.Rows.All
import Wide.All
import OpenK.AllK
import Wide.FinOn
import Lean
import KE.KNestM
import PyProof.EqAt
import PyProof.EqKinds
import PyProof.TupleCall
import PyProof.EnumMake
import PyProof.Draws
import KE.KDictList
import KE.KTryMore
import KE.KEqDict
import PyProof.ExcInit
import PyProof.InstStoreFacts
import KE.KSortTup
import PySem.Challenge.RW_fallcounts_k63_rounds_and_drops_counted
set_option Elab.async false
set_option linter.all false
set_option maxRecDepth 100000
set_option maxHeartbeats 8000000
namespace L2.FE
open PySem PySem.W PySem.Calls
noncomputable def vT : List Obj -> BT -> Nat -> Option BT
  | [], t, _ => some t
  | o :: r, t, n => match ((t.ins n o).get n).isSome with
    | true => vT r (t.ins n o) (n + 1)
    | false => none
theorem pK {life : Life} : ∀ {r : List Obj} {t T : BT} {n : Nat} {a : Array Obj}, vT r t n = some T -> absHeap t n life = ⟨a, life⟩ -> absHeap T (n + r.length) life = ⟨a ++ r.toArray, life⟩
  | [], t, T, n, a, h, e => by cases h; simpa using e
  | o :: r, t, T, n, a, h, e => by
    unfold vT at h
    cases g : ((t.ins n o).get n).isSome with
    | false => rw [g] at h; cases h
    | true =>
      rw [g] at h
      have x : absHeap (t.ins n o) (n + 1) life = ⟨a.push o, life⟩ := by rw [absHeap_ins g, e]; rfl
      have := pK h x
      rw [List.length_cons, show n + (r.length + 1) = n + 1 + r.length by omega, this]
      simp
noncomputable def qD (p : Program) (w : World) (n₀ : Nat) (ann : Option Value) : Nat -> SharedT -> Thread -> Option SharedT
  | 0, _, _ => none
  | n + 1, s, t => match through t with
    | true => some s
    | false => match PySem.W.Fast.tw6613529449190102663 n₀ ann t with
      | false => none
      | true => match PySem.W.Fast.tw10156331382660048174 (PySem.W.Fast.tw11892475500146522536 PySem.W.Fast.tw14364793385576792824) p w s t with
        | some (s', t') => qD p w n₀ ann n s' t'
        | none => none
theorem pJ {p : Program} {w : World} {n₀ : Nat} {ann : Option Value} : ∀ {n : Nat} {s r : SharedT} {t : Thread}, qD p w n₀ ann n s t = some r -> topRun treeTable p w n₀ ann n s.abs t = some r.abs
  | 0, _, _, _, h => by cases h
  | n + 1, s, r, t, h => by
    unfold qD at h
    unfold topRun
    cases ht : through t with
    | true => rw [ht] at h; cases h; rfl
    | false =>
      rw [ht, <- PySem.W.Fast.te6613529449190102663] at h
      cases hk : stepOk n₀ ann t with
      | false => simp only [hk] at h; cases h
      | true =>
        simp only [hk] at h
        rw [<- PySem.W.Fast.te10156331382660048174, <- PySem.W.Fast.te11892475500146522536, <- PySem.W.Fast.te14364793385576792824] at h
        cases hs : stepT (denote treeTable) p w s t with
        | none => rw [hs] at h; cases h
        | some x => obtain ⟨s₂, t₂⟩ := x; rw [hs] at h; rw [stepT_spec hs]; exact pJ h
noncomputable def mH (p : Program) (w : World) (N : Nat) (os : OsState) : Option SharedT :=
  match (boot_heap w.params).isNs mainGlobals with
  | true => (vT (boot_heap w.params).objs.toList .nil 0).bind fun T => qD p w (boot_heap w.params).objs.size ((boot_heap w.params).nsMap mainGlobals (Str.ofString "__annotations__")) N ⟨T, (boot_heap w.params).objs.size, (boot_heap w.params).life, #[], boot_drawn, boot_toks, os⟩ (topStub p)
  | false => none
noncomputable def tw (p : Program) (w : World) (s₁ : Shared) : Bool := staticsOk (PySem.W.Fast.tw5923862056798008813 p.main.body) (boot_heap w.params) s₁.heap && namesBound p s₁.heap && gensDone s₁ && laidKept (boot_heap w.params) s₁.heap
theorem rK {p q : Program} {loose : List Str} {Xt : Shared -> Bool} {α : Type} {Yf : Shared -> α} {Ya : World -> α} {N : Nat} (hN : Nat.ble 600 N = true) (e : opening p = plainProg p.main.scope.names) (f : ∀ s, fenceModules? p s = some s)
    (h1 : ∀ (w : World) (os : OsState), (mH p w N os).map (fun s => tw p w s.abs) = some true)
    (h2 : ∀ (w : World) (os : OsState), (mH p w N os).map (fun s => PySem.W.Fast.tw4187177175401517315 q loose (PySem.W.Fast.tw5923862056798008813 p.main.body) Xt true s.abs) = some (openGood q loose))
    (h3 : ∀ (w : World) (os : OsState), (mH p w N os).map (fun s => Yf s.abs) = some (Ya w)) : LeftO p q loose Xt Yf Ya N := fun w => by
  obtain ⟨s, hs, e'⟩ := Option.map_eq_some_iff.mp (boot_open e hN f w)
  obtain ⟨H, gs, d, k, os⟩ := s
  obtain ⟨rfl, rfl, rfl, rfl⟩ : H = boot_heap w.params /\ gs = _ /\ d = boot_drawn /\ k = boot_toks := by simpa using e'
  obtain ⟨r, hr, l1⟩ := Option.map_eq_some_iff.mp (h1 w os)
  obtain ⟨r2, hr2, l2⟩ := Option.map_eq_some_iff.mp (h2 w os)
  obtain ⟨r3, hr3, l3⟩ := Option.map_eq_some_iff.mp (h3 w os)
  obtain rfl : r = r2 := Option.some.inj (hr.symm.trans hr2)
  obtain rfl : r = r3 := Option.some.inj (hr.symm.trans hr3)
  unfold tw at l1
  rw [<- PySem.W.Fast.te5923862056798008813] at l1
  rw [<- PySem.W.Fast.te4187177175401517315, <- PySem.W.Fast.te5923862056798008813] at l2
  unfold mH at hr
  cases hn : (boot_heap w.params).isNs mainGlobals with
  | false => rw [hn] at hr; cases hr
  | true =>
    rw [hn] at hr
    obtain ⟨T, hT, hr⟩ := Option.bind_eq_some_iff.mp hr
    have z := pK (life := (boot_heap w.params).life) (n := 0) (a := #[]) hT rfl
    have z' : absHeap T (boot_heap w.params).objs.size (boot_heap w.params).life = boot_heap w.params := by
      rw [Nat.zero_add, Array.length_toList] at z
      rw [z]
      simp
    have hr := pJ hr
    have st : (SharedT.mk T (boot_heap w.params).objs.size (boot_heap w.params).life #[] boot_drawn boot_toks os).abs = ⟨boot_heap w.params, #[], boot_drawn, boot_toks, os⟩ := by
      show Shared.mk _ _ _ _ _ = _
      rw [z']
    rw [st] at hr
    unfold openEnds
    rw [hs]
    show Option.map _ (topFrom treeTable p w N _) = _
    have t : topFrom treeTable p w N ⟨boot_heap w.params, #[], boot_drawn, boot_toks, os⟩ = some r.abs := by
      unfold topFrom
      dsimp only
      rw [hn]
      rw [hr]
      show (match staticsOk (importedModules p.main.body) (boot_heap w.params) r.abs.heap && namesBound p r.abs.heap && gensDone r.abs && laidKept (boot_heap w.params) r.abs.heap with | true => _ | false => _) = _
      rw [l1]
    rw [t]
    show some (openSeen q loose (importedModules p.main.body) Xt true r.abs, Yf r.abs) = _
    rw [l2, l3]
noncomputable def viewOf (p : Program) (keep : List Nat) : Program := { p with main := { p.main with body := keep.filterMap fun i => p.main.body[i]? } }
end L2.FE
section
open PySem PySem.W PyProof.Rows
noncomputable def FC.Q : Program := L2.FE.viewOf PySem.Challenge.pw_fallcounts_k63_rounds_and_drops_counted [1,2,4,5,6,8,9,10,11,12,13,14,15,16,18,19,20,21,22,23,24,25,26,27,28]
theorem FC.AE : ∀ (w : World) (os : OsState), (L2.FE.mH PySem.Challenge.pw_fallcounts_k63_rounds_and_drops_counted w 2376 os).map (fun s => L2.FE.tw PySem.Challenge.pw_fallcounts_k63_rounds_and_drops_counted w s.abs) = some true := fun w os => by kernel_rfl
theorem FC.zY : ∀ (w : World) (os : OsState), (L2.FE.mH PySem.Challenge.pw_fallcounts_k63_rounds_and_drops_counted w 2376 os).map (fun s => PySem.W.Fast.tw4187177175401517315 FC.Q [] (PySem.W.Fast.tw5923862056798008813 PySem.Challenge.pw_fallcounts_k63_rounds_and_drops_counted.main.body) (fun s => xlAt FC.Q [] s && recOk (RowW.records (OpenRow.toRowW (OpenLaw.row PySem.Challenge.rw_fallcounts_k63_rounds_and_drops_counted))) s) true s.abs) = some (openGood FC.Q []) := fun w os => by kernel_rfl
end
namespace L2
open PySem PySem.Spec PyProof.Rows
noncomputable abbrev Key := Sum Int Str
noncomputable def mJ : Key -> Value -> Bool
  | .inl k, v => Value.isInt k v
  | .inr x, v => Value.isStrOf x v
noncomputable def Cm (w : World) : Key -> Int
  | .inl k => hashInt k
  | .inr x => hashStr w x
theorem bY : ∀ {k : Key} {v : Value}, mJ k v = true -> (∃ i t, k = Sum.inl i /\ v = Value.int i t) \/ (∃ x t, k = Sum.inr x /\ v = Value.str x t)
  | .inl i, v, h => by
    obtain ⟨t, e⟩ := Value.isInt_shape (k := i) (v := v) h
    exact .inl ⟨i, t, rfl, e⟩
  | .inr x, v, h => by
    obtain ⟨t, e⟩ := Value.isStrOf_shape (x := x) (v := v) h
    exact .inr ⟨x, t, rfl, e⟩
theorem rT (i : Int) (t : Tok) : mJ (.inl i) (.int i t) = true := by simp [mJ, Value.isInt]
theorem rP (x : Str) (t : Tok) : mJ (.inr x) (.str x t) = true := by simp [mJ, Value.isStrOf]
theorem yw (a b : Int) : decide ((Sum.inl a : Key) = Sum.inl b) = (a == b) := by
  by_cases e : a = b
  · subst e; simp
  · have h : ¬ (Sum.inl a : Key) = Sum.inl b := fun q => e (Sum.inl.inj q)
    rw [decide_eq_false h]
    exact (beq_eq_false_iff_ne.mpr e).symm
theorem yP (a b : Str) : decide ((Sum.inr a : Key) = Sum.inr b) = decide (a = b) := by
  by_cases e : a = b
  · subst e; simp
  · have h : ¬ (Sum.inr a : Key) = Sum.inr b := fun q => e (Sum.inr.inj q)
    rw [decide_eq_false h, decide_eq_false e]
theorem yz (a : Int) (b : Str) : decide ((Sum.inl a : Key) = Sum.inr b) = false := decide_eq_false (fun q => nomatch q)
theorem zm (a : Str) (b : Int) : decide ((Sum.inr a : Key) = Sum.inl b) = false := decide_eq_false (fun q => nomatch q)
noncomputable def b8 (prog : Program) (w : World) : PySem.KeyKind prog w Key where
  is := mJ
  hash := Cm w
  inj := fun v a b ha hb => by
    rcases bY ha with ⟨i, t, rfl, rfl⟩ | ⟨x, t, rfl, rfl⟩
    · rcases bY hb with ⟨j, u, rfl, e⟩ | ⟨y, u, rfl, e⟩
      · injection e with e1 _; rw [e1]
      · exact nomatch e
    · rcases bY hb with ⟨j, u, rfl, e⟩ | ⟨y, u, rfl, e⟩
      · exact nomatch e
      · injection e with e1 _; rw [e1]
  byValue := fun k v h => by
    rcases bY h with ⟨i, t, rfl, rfl⟩ | ⟨x, t, rfl, rfl⟩ <;> rfl
  pyHash := fun hv h => by
    rcases bY hv with ⟨i, t, rfl, rfl⟩ | ⟨x, t, rfl, rfl⟩
    · exact wpAny_pyHash_int h
    · exact wpAny_pyHash_str h
  eqBool := fun hu hv h => by
    rcases bY hu with ⟨i, t, rfl, rfl⟩ | ⟨x, t, rfl, rfl⟩
    · rcases bY hv with ⟨j, u, rfl, rfl⟩ | ⟨y, u, rfl, rfl⟩
      · rw [yw] at h; exact wpAny_eqBool_int h
      · rw [yz] at h; exact SeqAt.EqAt.int_str i t y u _ _ _ _ h
    · rcases bY hv with ⟨j, u, rfl, rfl⟩ | ⟨y, u, rfl, rfl⟩
      · rw [zm] at h; exact SeqAt.EqAt.str_int x t j u _ _ _ _ h
      · rw [yP] at h; exact wpAny_eqBool_str h
  «strs» := fun k x t v h => by
    rcases bY h with ⟨i, u, rfl, e⟩ | ⟨y, u, rfl, e⟩
    · exact nomatch e
    · injection e with e1 _
      subst e1
      cases v <;> rfl
theorem pP (prog : Program) (w : World) (i : Int) (t : Tok) : (b8 prog w).is (.inl i) (.int i t) = true := rT i t
theorem oU (prog : Program) (w : World) (x : Str) (t : Tok) : (b8 prog w).is (.inr x) (.str x t) = true := rP x t
inductive V where
  | non | bl (b : Bool) | int (i : Int) | str (x : Str) | byt (b : Array UInt8) | flt (b : UInt64) | ref (a : Addr) | ty (n : String)
  deriving DecidableEq
noncomputable def RelV : V -> Value -> Prop
  | .non, u => u = Value.none
  | .bl b, u => u = Value.bool b
  | .int i, u => ∃ t, u = Value.int i t
  | .str x, u => ∃ t, u = Value.str x t
  | .byt b, u => ∃ t, u = Value.bytes b t
  | .flt b, u => ∃ t, u = Value.float b t
  | .ref a, u => u = Value.ref a
  | .ty n, u => u = Value.type n
noncomputable abbrev Vals : List V -> List Value -> Prop := Paired RelV
theorem Vals.length {xs : List V} {us : List Value} (r : Vals xs us) : xs.length = us.length := Paired.length r
theorem Vals.get : ∀ {xs : List V} {us : List Value} {i : Nat} {x : V}, Vals xs us -> xs[i]? = some x -> ∃ u, us[i]? = some u /\ RelV x u
  | _, _, _, _, .nil, e => by simp at e
  | _, _, 0, _, .cons r _, e => by simp at e; subst e; exact ⟨_, rfl, r⟩
  | _, _, i + 1, x, .cons _ t, e => by
    obtain ⟨u, h1, h2⟩ := Vals.get (i := i) (x := x) t (by simpa using e)
    exact ⟨u, by simpa using h1, h2⟩
theorem Vals.set {x : V} {u : Value} (r : RelV x u) : ∀ {xs : List V} {us : List Value} (i : Nat), Vals xs us -> Vals (xs.set i x) (us.set i u)
  | _, _, _, .nil => .nil
  | _, _, 0, .cons _ t => .cons r t
  | _, _, i + 1, .cons q t => .cons q (Vals.set r i t)
theorem Vals.append : ∀ {xs ys : List V} {us ws : List Value}, Vals xs us -> Vals ys ws -> Vals (xs ++ ys) (us ++ ws)
  | _, _, _, _, .nil, s => s
  | _, _, _, _, .cons r t, s => .cons r (Vals.append t s)
theorem Vals.take : ∀ {xs : List V} {us : List Value} (n : Nat), Vals xs us -> Vals (xs.take n) (us.take n)
  | _, _, 0, _ => .nil
  | _, _, _ + 1, .nil => .nil
  | _, _, n + 1, .cons r t => .cons r (Vals.take n t)
theorem Vals.drop : ∀ {xs : List V} {us : List Value} (n : Nat), Vals xs us -> Vals (xs.drop n) (us.drop n)
  | _, _, 0, r => r
  | _, _, _ + 1, .nil => .nil
  | _, _, n + 1, .cons _ t => Vals.drop n t
noncomputable def jI : Option V -> Option Value -> Prop
  | some v, some u => RelV v u
  | none, none => True
  | _, _ => False
noncomputable def KV {κ : Type} : List (κ × V) -> List (κ × Value) -> Prop := Paired fun (p : κ × V) (q : κ × Value) => p.1 = q.1 /\ RelV p.2 q.2
noncomputable def kV : Key -> V
  | .inl i => .int i
  | .inr x => .str x
inductive HO where
  | lst (xs : List V)
  | tup (xs : List V)
  | dK (kvs : List (Key × V)) | dT (kvs : List (List Key × V))
  | set (S : Int -> Bool) (n : Nat)
  | ins (C dx : Addr) (fs : List (Str × V))
  | own (x : Addr)
  | xd (fs : List (Str × V))
  | met (f x : Addr)
  | rng (lo hi : Int)
  | frz (o : Obj) (u : HO)
  | tbl (ps : Array Value)
  | ext (φ : Heap -> Prop)
noncomputable abbrev Hp := Addr -> Option HO
noncomputable def upd (H : Hp) (a : Addr) (o : HO) : Hp := fun b => if b = a then some o else H b
theorem bg {H : Hp} {a : Addr} {o : HO} : upd H a o a = some o := by unfold upd; rw [if_pos rfl]
theorem aS {H : Hp} {a b : Addr} {o : HO} (h : b ≠ a) : upd H a o b = H b := by unfold upd; rw [if_neg h]
theorem xE {H : Hp} {a b : Addr} {o u : HO} (h : H a = some o) (h' : H b = some u) (d : o ≠ u) : a ≠ b := by
  intro e; subst e; rw [h] at h'; exact d (Option.some.inj h')
theorem cn {H : Hp} {a b : Addr} {o : HO} (h : H a = some o) (h' : H b = none) : a ≠ b := by
  intro e; subst e; rw [h] at h'; cases h'
noncomputable def p5 (h : Heap) (a : Addr) (its : Array Value) : Prop := ∃ o, h.get? a = some o /\ (o.cls = .type "tuple" /\ ∃ n, o.data = .seq its n) /\ o.dict = none
theorem p5.tup {h : Heap} {a : Addr} {its : Array Value} (x : p5 h a its) : IsTup h a its := let ⟨o, e, ⟨c, n, d⟩, _⟩ := x; ⟨o, e, c, n, d⟩
theorem p5.new (h : Heap) (its : Array Value) : p5 (h.push { cls := .type "tuple", data := .seq its }) h.objs.size its := ⟨_, Heap.get?_push_size _ rfl, ⟨rfl, _, rfl⟩, rfl⟩
section
variable (P : Program) (w : World)
noncomputable def bO (H : Hp) (h : Heap) (a : Addr) : HO -> Prop
  | .lst xs => xs.length <= sizeLine /\ ∃ (its : List Value) (n : Nat), Vals xs its /\ h.get? a = some { cls := .type "list", data := .seq its.toArray n }
  | .tup xs => xs.length <= sizeLine /\ ∃ its : List Value, Vals xs its /\ p5 h a its.toArray
  | .dK kvs => kvs.length <= sizeLine /\ (a == sysModules) = false /\ ∃ vs, KV kvs vs /\ h.DictOf (b8 P w) a vs
  | .dT kvs => kvs.length <= sizeLine /\ (a == sysModules) = false /\ ∃ xs : List (List Key × Addr × Value),
      Paired (fun (p : List Key × V) (q : List Key × Addr × Value) => p.1 = q.1 /\ H q.2.1 = some (.tup (p.1.map kV)) /\ RelV p.2 q.2.2) kvs xs ∧
      ∃ o es ep, h.get? a = some o /\ o.ExactDict /\ o.data = .dict es ep /\ es.toList = xs.map (entryOfKey (tupleKind (b8 P w))) /\ (xs.map (·.1)).Nodup
  | .set S n => h.SetOf (intKind P w) a S n
  | .ins C dx fs => H dx = some (.own a) /\ fs.length <= 1000 /\ dx ≠ a /\ h.get? a = some (PySem.W.instObj C dx) ∧
      ∃ mA, h.Ns1 dx mA /\ (∀ f, jI (fs.lookup f) (mA f)) /\ PySem.Within mA (fs.map (·.1))
  | .own _ => ∃ o, h.get? a = some o
  | .xd fs => ∃ mA, h.Ns1 a mA /\ ∀ f, jI (fs.lookup f) (mA f)
  | .rng lo hi => ∃ t u v, h.get? a = some { cls := .type "range", data := .fields #[.int lo t, .int hi u, .int 1 v] }
  | .frz o u => h.get? a = some o /\ bO H h a u
  | .tbl ps => h.get? a = some { cls := .none, data := .fields ps }
  | .met f x => h.get? a = some (PySem.W.methodObj (.ref f) (.ref x))
  | .ext φ => φ h /\ (∃ o, h.get? a = some o) /\ ∀ h1 h2 : Heap, φ h1 -> (∀ o, h1.get? a = some o -> h2.get? a = some o) -> φ h2
noncomputable def HOk (H : Hp) (h : Heap) : Prop := ∀ a o, H a = some o -> bO P w H h a o
end
section
variable {P : Program} {w : World} {H H' : Hp} {h h' : Heap} {a : Addr} {o : HO}
theorem bO.lt (x : bO P w H h a o) : a < h.objs.size := by
  cases o with
  | lst xs => obtain ⟨_, _, _, _, e⟩ := x; exact Heap.lt_size e
  | tup xs => obtain ⟨_, _, _, _, e, _⟩ := x; exact Heap.lt_size e
  | dK kvs => obtain ⟨_, _, _, _, o, _, _, e, _⟩ := x; exact Heap.lt_size e
  | dT kvs => obtain ⟨_, _, _, _, o, _, _, e, _⟩ := x; exact Heap.lt_size e
  | set S n => obtain ⟨o, _, _, _, e, _⟩ := x; exact Heap.lt_size e
  | ins C dx fs => obtain ⟨_, _, _, e, _⟩ := x; exact Heap.lt_size e
  | own y => obtain ⟨_, e⟩ := x; exact Heap.lt_size e
  | xd fs => obtain ⟨_, ⟨_, _, _, e, _⟩, _⟩ := x; exact Heap.lt_size e
  | rng lo hi => obtain ⟨_, _, _, e⟩ := x; exact Heap.lt_size e
  | frz ob u => obtain ⟨e, _⟩ := x; exact Heap.lt_size e
  | tbl ps => exact Heap.lt_size (show h.get? a = some _ from x)
  | met f y => exact Heap.lt_size (show h.get? a = some _ from x)
  | ext φ => obtain ⟨_, ⟨_, e⟩, _⟩ := x; exact Heap.lt_size e
theorem Paired.uX {α β : Type} {F G : α -> β -> Prop} : ∀ {l₁ : List α} {l₂ : List β}, Paired F l₁ l₂ -> (∀ a b, F a b -> G a b) -> Paired G l₁ l₂
  | _, _, .nil, _ => .nil
  | _, _, .cons r t, f => .cons (f _ _ r) (Paired.uX t f)
theorem bO.n9 (x : bO P w H h a o) (k : ∀ b u, (b = a \/ H b = some (.own a)) -> h.get? b = some u -> h'.get? b = some u)
    (ho : ∀ b, H b = some (.own a) -> H' b = some (.own a)) (ht : ∀ b xs, H b = some (.tup xs) -> H' b = some (.tup xs)) : bO P w H' h' a o := by
  induction o with
  | lst xs => obtain ⟨z, its, n, r, e⟩ := x; exact ⟨z, its, n, r, k _ _ (.inl rfl) e⟩
  | tup xs => obtain ⟨z, its, r, ob, e, c⟩ := x; exact ⟨z, its, r, ob, k _ _ (.inl rfl) e, c⟩
  | dK kvs => obtain ⟨z, y, vs, r, ob, es, ep, e, c⟩ := x; exact ⟨z, y, vs, r, ob, es, ep, k _ _ (.inl rfl) e, c⟩
  | dT kvs =>
    obtain ⟨z, y, xs, r, ob, es, ep, e, c⟩ := x
    exact ⟨z, y, xs, Paired.uX r fun p q z => ⟨z.1, ht _ _ z.2.1, z.2.2⟩, ob, es, ep, k _ _ (.inl rfl) e, c⟩
  | set S n => obtain ⟨ob, es, ep, t, e, c⟩ := x; exact ⟨ob, es, ep, t, k _ _ (.inl rfl) e, c⟩
  | ins C dx fs =>
    obtain ⟨d, z, ne, e, mA, ⟨od, es, ep, e2, c⟩, r⟩ := x
    exact ⟨ho _ d, z, ne, k _ _ (.inl rfl) e, mA, ⟨od, es, ep, k _ _ (.inr d) e2, c⟩, r⟩
  | own y => obtain ⟨ob, e⟩ := x; exact ⟨ob, k _ _ (.inl rfl) e⟩
  | xd fs => obtain ⟨mA, ⟨od, es, ep, e, c⟩, r⟩ := x; exact ⟨mA, ⟨od, es, ep, k _ _ (.inl rfl) e, c⟩, r⟩
  | rng lo hi => obtain ⟨t, u, v, e⟩ := x; exact ⟨t, u, v, k _ _ (.inl rfl) e⟩
  | frz ob u ih => obtain ⟨e, q⟩ := x; exact ⟨k _ _ (.inl rfl) e, ih q⟩
  | tbl ps =>
    have e : h.get? a = some { cls := .none, data := .fields ps } := x
    show h'.get? a = some { cls := .none, data := .fields ps }
    exact k a _ (.inl rfl) e
  | met f y =>
    have e : h.get? a = some (PySem.W.methodObj (.ref f) (.ref y)) := x
    show h'.get? a = some (PySem.W.methodObj (.ref f) (.ref y))
    exact k a _ (.inl rfl) e
  | ext φ => obtain ⟨p, ⟨o, e⟩, st⟩ := x; exact ⟨st _ _ p fun o q => k _ _ (.inl rfl) q, ⟨o, k _ _ (.inl rfl) e⟩, st⟩
theorem HOk.lt (x : HOk P w H h) (e : H a = some o) : a < h.objs.size := (x a o e).lt
theorem HOk.fresh (x : HOk P w H h) (e : h.objs.size <= a) : H a = none := by
  cases q : H a with
  | none => rfl
  | some u => exact absurd (Nat.lt_of_lt_of_le (x.lt q) e) (Nat.lt_irrefl _)
theorem HOk.kept (x : HOk P w H h) (k : ∀ b u, h.get? b = some u -> h'.get? b = some u) : HOk P w H h' := fun a o e =>
  (x a o e).n9 (fun b u _ q => k b u q) (fun _ q => q) fun _ _ q => q
theorem HOk.laid (x : HOk P w H h) (k : ∀ b u, h.get? b = some u -> h'.get? b = some u) (hp : h.objs.size <= a) (new : bO P w (upd H a o) h' a o) : HOk P w (upd H a o) h' := fun b u e => by
  have hn := x.fresh hp
  by_cases hb : b = a
  · subst hb; rw [bg] at e; cases e; exact new
  · rw [aS hb] at e
    exact (x b u e).n9 (fun c v _ q => k c v q) (fun c q => by rw [aS (cn q hn)]; exact q) fun c xs q => by rw [aS (cn q hn)]; exact q
end
noncomputable def Rd (H : Hp) (a : Addr) (u : HO) : Prop := H a = some u \/ ∃ o, H a = some (.frz o u)
theorem Rd.ok {P : Program} {w : World} {H : Hp} {h : Heap} {a : Addr} {u : HO} (r : Rd H a u) (x : HOk P w H h) : bO P w H h a u := by
  rcases r with r | ⟨o, r⟩
  · exact x a u r
  · obtain ⟨_, q⟩ := x a _ r
    exact q
noncomputable def Mut : Option HO -> Prop
  | some (.lst _) => True
  | some (.dK _) => True
  | some (.dT _) => True
  | some (.set _ _) => True
  | some (.ins _ _ _) => True
  | some (.ext _) => True
  | _ => False
section
variable {P : Program} {w : World} {H : Hp} {h h' : Heap} {x e : Addr} {o' : HO}
theorem HOk.write (ok : HOk P w H h) (mu : Mut (H x)) (he : e = x \/ H e = some (.own x)) (k : ∀ b u, b ≠ e -> h.get? b = some u -> h'.get? b = some u) (heo : ∃ u, h'.get? e = some u)
    (new : bO P w (upd H x o') h' x o') : HOk P w (upd H x o') h' := fun b u q => by
  have nown : ∀ c y, H c = some (.own y) -> c ≠ x := fun c y r z => by subst z; rw [r] at mu; exact mu
  have ntup : ∀ c xs, H c = some (.tup xs) -> c ≠ x := fun c xs r z => by subst z; rw [r] at mu; exact mu
  by_cases hb : b = x
  · subst hb; rw [bg] at q; cases q; exact new
  · rw [aS hb] at q
    by_cases hbe : b = e
    · have q' : H b = some (.own x) := by
        rcases he with z | z
        · exact absurd (hbe.trans z) hb
        · rw [hbe]; exact z
      rw [q] at q'; cases q'
      obtain ⟨v, hv⟩ := heo
      exact ⟨v, by rw [hbe]; exact hv⟩
    · refine (ok b u q).n9 (fun c v hc r => k c v ?_ r) (fun c r => by rw [aS (nown c b r)]; exact r) fun c xs r => by rw [aS (ntup c xs r)]; exact r
      rcases hc with rfl | hc
      · exact hbe
      · rintro rfl
        rcases he with z | z
        · exact nown c b hc z
        · rw [hc] at z; cases z; exact hb rfl
end
structure Un (fs ex : List Addr) (H H' : Hp) (h h' : Heap) : Prop where
  keep : ∀ b o, h.get? b = some o -> H b = none -> b ∉ fs -> b ∉ ex -> h'.get? b = some o
  slot : ∀ b o, h.get? b = some o -> H b = none -> b ∈ fs -> b ∉ ex -> ∃ sl, h'.get? b = some { o with slots := sl }
  free : ∀ b o, h.get? b = some o -> H b = none -> b ∉ ex -> H' b = none
  there : ∀ b o, h.get? b = some o -> b ∉ ex -> ∃ o', h'.get? b = some o'
  ly : ∀ b xs, H b = some (.tup xs) -> H' b = some (.tup xs)
  la : ∀ b o u, H b = some (.frz o u) -> H' b = some (.frz o u)
  lD : ∀ b ps, H b = some (.tbl ps) -> ∃ more, H' b = some (.tbl (ps ++ more))
section
variable {fs fs' ex ex' : List Addr} {H H1 H2 : Hp} {h h1 h2 h' : Heap} {a x e : Addr} {o : HO}
theorem Un.any (u : Un fs ex H H1 h h1) {b : Addr} {ob : Obj} (q : h.get? b = some ob) (n : H b = none) (hx : b ∉ ex) : ∃ sl, h1.get? b = some { ob with slots := sl } := by
  by_cases hb : b ∈ fs
  · exact u.slot b ob q n hb hx
  · exact ⟨ob.slots, u.keep b ob q n hb hx⟩
theorem Un.kept (k : ∀ b u, h.get? b = some u -> h'.get? b = some u) : Un fs ex H H h h' :=
  ⟨fun b ob q _ _ _ => k b ob q, fun b ob q _ _ _ => ⟨ob.slots, k b ob q⟩, fun _ _ _ n _ => n, fun b ob q _ => ⟨ob, k b ob q⟩, fun _ _ q => q, fun _ _ _ q => q, fun _ ps q => ⟨#[], by rw [q]; simp⟩⟩
theorem Un.refl : Un fs ex H H h h := Un.kept fun _ _ q => q
theorem Un.laid (k : ∀ b u, h.get? b = some u -> h'.get? b = some u) (hp : h.objs.size <= a) (hn : H a = none) : Un fs ex H (upd H a o) h h' where
  keep := fun b u q _ _ _ => k b u q
  slot := fun b u q _ _ _ => ⟨u.slots, k b u q⟩
  free := fun b u q n _ => by rw [aS (Nat.ne_of_lt (Nat.lt_of_lt_of_le (Heap.lt_size q) hp))]; exact n
  there := fun b u q _ => ⟨u, k b u q⟩
  ly := fun b xs q => by rw [aS (cn q hn)]; exact q
  la := fun b u xs q => by rw [aS (cn q hn)]; exact q
  lD := fun b ps q => ⟨#[], by rw [aS (cn q hn), q]; simp⟩
theorem Un.write (mu : Mut (H x)) (he : e = x \/ H e = some (.own x)) (k : ∀ b u, b ≠ e -> h.get? b = some u -> h'.get? b = some u) (heo : ∃ u, h'.get? e = some u) : Un fs ex H (upd H x o) h h' := by
  have hx : ∀ b, H b = none -> b ≠ x := fun b n z => by subst z; rw [n] at mu; exact mu
  have hb : ∀ b, H b = none -> b ≠ e := fun b n z => by
    subst z
    rcases he with r | r
    · exact hx b n r
    · rw [n] at r; cases r
  have hm : ∀ b u, H b = some u -> ¬ Mut (some u) -> b ≠ x := fun b u q nm z => by subst z; rw [q] at mu; exact nm mu
  refine ⟨fun b u q n _ _ => k b u (hb b n) q, fun b u q n _ _ => ⟨u.slots, k b u (hb b n) q⟩, fun b u q n _ => by rw [aS (hx b n)]; exact n, fun b u q _ => ?_,
    fun b xs q => by rw [aS (hm b _ q fun z => z)]; exact q, fun b u xs q => by rw [aS (hm b _ q fun z => z)]; exact q, fun b ps q => ⟨#[], by rw [aS (hm b _ q fun z => z), q]; simp⟩⟩
  by_cases hbe : b = e
  · subst hbe; exact heo
  · exact ⟨u, k b u hbe q⟩
end
noncomputable def trk (h : Heap) (H : Hp) : List Addr := (List.range h.objs.size).filter fun a => (H a).isSome
noncomputable def nK (h : Heap) (H : Hp) : Heap := PySem.W.hideAll h (trk h H)
theorem sf (h : Heap) (H : Hp) : (nK h H).objs.size = h.objs.size := PySem.W.hideAll_size _ _
theorem uv {h : Heap} {H : Hp} {b : Addr} {o : Obj} (e : h.get? b = some o) (n : H b = none) : (nK h H).get? b = some o :=
  PySem.W.hideAll_get _ e fun hm => by
    have q : (H b).isSome = true := (List.mem_filter.mp hm).2
    rw [n] at q; simp at q
theorem vZ {h : Heap} {H : Hp} {b : Addr} {o : Obj} (e : (nK h H).get? b = some o) : h.get? b = some o /\ H b = none := by
  have e' : h.get? b = some o := PySem.W.of_hideAll (trk h H) e
  refine ⟨e', ?_⟩
  cases q : H b with
  | none => rfl
  | some x =>
    have hm : b ∈ trk h H := List.mem_filter.mpr ⟨List.mem_range.mpr (Heap.lt_size e'), by simp [q]⟩
    have z : (nK h H).get? b = none := PySem.W.hideAll_none (trk h H) hm
    rw [z] at e; cases e
structure Mod (K : PySem.W.Frag) (mg : Str -> Option Value) (base : Heap) : Prop where
  kin : K.In base
  glob : base.Ns mainGlobals mg
  blt : ∃ mb, base.Ns builtinsNs mb /\ ∀ x : Str, x ≠ "__name__" -> mb x = bootBuiltins x
  nolimit : base.NoLimit
structure Cx where
  prog : Program
  w : World
  K : PySem.W.Frag
  mg : Str -> Option Value
  base : Heap
  A : Around
  N : List Str
  aQ : Shared
  bx : Hp
  env : Env
  outer : List Env
  stack : List Env
  ex : List Addr
  fn : Str -> Bool
  calm : Bool
  pn : List (Addr × Obj)
  xe : Value -> Shared -> Prop
noncomputable def frs (l : List Env) : List Addr := l.filterMap (·.frame)
noncomputable abbrev Cx.fs (X : Cx) : List Addr := frs X.outer
noncomputable def Vis (sc : Scope) (x : Str) : Prop := sc.names.lookup x = some .local \/ sc.names.lookup x = some .cell \/ sc.names.lookup x = some .free
noncomputable def Loc (sc : Scope) (x : Str) : Prop := sc.names.lookup x = some .local \/ sc.names.lookup x = some .cell
noncomputable def Look (env : Env) (h : Heap) (m : Str -> Option Value) (x : Str) (u : Value) : Prop :=
  (env.kindOf x = some .local /\ m x = some u) \/ ((env.kindOf x = some .cell \/ env.kindOf x = some .free) /\ ∃ c, env.cells.lookup x = some c /\ h.IsCell c (some u))
structure Cx.Ok (X : Cx) : Prop where
  mod : Mod X.K X.mg X.base
  kind : X.env.scope.kind = .function
  glob : X.env.globals = mainGlobals
  blt : X.env.builtins = builtinsNs
  above : X.aQ.heap.objs.size <= X.env.locals
  inj : ∀ x y c, X.env.cells.lookup x = some c -> X.env.cells.lookup y = some c -> x = y
  has : ∀ x, (X.env.kindOf x = some .cell \/ X.env.kindOf x = some .free) -> ∃ c, X.env.cells.lookup x = some c
  cab : ∀ x c, X.fn x = true -> X.env.cells.lookup x = some c -> X.aQ.heap.objs.size <= c
  hd : X.calm = true -> X.A.handled = none
  frames : X.A.frames = some X.stack
  stk : X.stack = X.outer \/ (X.stack = X.env :: X.outer /\ X.env.frame = some X.env.locals)
  exf : ∀ b ∈ X.ex, b ≠ X.env.locals /\ ∀ x c, X.env.cells.lookup x = some c -> c ≠ b
  bs : ∀ b o, X.base.get? b = some o -> X.aQ.heap.get? b = some o /\ X.bx b = none
  bsz : X.base.objs.size <= X.aQ.heap.objs.size
  rW : ∀ b o, X.base.get? b = some o -> b ∉ X.ex
  vF : ∀ b ∈ X.ex, b ∉ X.fs
  kF : X.aQ.heap.FunFrames X.base X.outer
  frf : ∀ b ∈ X.fs, X.bx b = none
structure Inv (X : Cx) (pins : List (Addr × Obj)) (σ : List (Option V)) (H : Hp) (s : Shared) : Prop where
  ok : X.Ok
  os : s.os = X.aQ.os
  bare : AllBare s.gens
  base : Un X.fs X.ex X.bx H X.aQ.heap s.heap
  loc : ∃ m, s.heap.Ns X.env.locals m /\ ∀ (i : Nat) (x : Str) (v : V), X.N[i]? = some x -> σ[i]? = some (some v) -> Vis X.env.scope x -> ∃ u, RelV v u /\ Look X.env s.heap m x u
  cell : ∀ x c, X.env.cells.lookup x = some c -> ∃ v, s.heap.IsCell c v
  free : H X.env.locals = none
  gF : ∀ x c, X.env.cells.lookup x = some c -> H c = none
  pin : ∀ p ∈ X.pn ++ pins, s.heap.get? p.1 = some p.2 /\ H p.1 = none /\ p.1 ≠ X.env.locals /\ p.1 ∉ X.fs /\ ∀ v, p.2.data ≠ .cell v
  hok : HOk X.prog X.w H s.heap
  len : σ.length = X.N.length
section
variable {X : Cx} {pins : List (Addr × Obj)} {σ : List (Option V)} {H H' : Hp} {s : Shared} {h' : Heap}
theorem Cx.Ok.Co (ok : X.Ok) {b : Addr} {o : Obj} (e : X.base.get? b = some o) : b ∉ X.fs := fun hb => by
  have := (ok.kF.mem hb).1
  rw [e] at this; cases this
theorem Inv.bs (I : Inv X pins σ H s) : ∀ b o, X.base.get? b = some o -> s.heap.get? b = some o /\ H b = none := fun b o e =>
  ⟨I.base.keep b o (I.ok.bs b o e).1 (I.ok.bs b o e).2 (I.ok.Co e) (I.ok.rW b o e), I.base.free b o (I.ok.bs b o e).1 (I.ok.bs b o e).2 (I.ok.rW b o e)⟩
theorem Inv.bk (I : Inv X pins σ H s) : ∀ b o, X.base.get? b = some o -> s.heap.get? b = some o := fun b o e => (I.bs b o e).1
theorem Inv.mod (I : Inv X pins σ H s) : Mod X.K X.mg X.base := I.ok.mod
theorem Inv.kIn (I : Inv X pins σ H s) : X.K.In s.heap := I.ok.mod.kin.keeps I.bk
theorem Inv.lt (I : Inv X pins σ H s) : X.env.locals < s.heap.objs.size := let ⟨_, hn, _⟩ := I.loc; hn.lt
theorem Inv.sz (I : Inv X pins σ H s) : X.aQ.heap.objs.size <= s.heap.objs.size := Nat.le_trans I.ok.above (Nat.le_of_lt I.lt)
theorem Inv.Af (I : Inv X pins σ H s) {a : Addr} (h : s.heap.objs.size <= a) : a ∉ X.fs := fun hb => by
  obtain ⟨_, o, ho, _⟩ := I.ok.kF.mem hb
  exact absurd (Nat.lt_of_lt_of_le (Heap.lt_size ho) (Nat.le_trans I.sz h)) (Nat.lt_irrefl _)
theorem Inv.cne (I : Inv X pins σ H s) : ∀ x c, X.env.cells.lookup x = some c -> c ≠ X.env.locals := fun x c e z => by
  obtain ⟨v, o, ho, hd⟩ := I.cell x c e
  obtain ⟨m, ⟨o', es, ep, ho', hd', _⟩, _⟩ := I.loc
  rw [z, ho'] at ho; cases ho; rw [hd'] at hd; cases hd
theorem Inv.kF (I : Inv X pins σ H s) : s.heap.FunFrames X.base X.outer := by
  have all : ∀ (l : List Env), (∀ b ∈ frs l, b ∈ X.fs) -> X.aQ.heap.FunFrames X.base l -> s.heap.FunFrames X.base l := by
    intro l
    induction l with
    | nil => intro _ _; trivial
    | cons env r ih =>
      intro hs hl
      obtain ⟨hk, ⟨L, o, hf, hn, ho, hd⟩, hr⟩ := hl
      have hL : L ∈ X.fs := hs L (by unfold frs; rw [List.filterMap_cons, hf]; exact List.mem_cons_self)
      obtain ⟨sl, e⟩ := I.base.slot L o ho (I.ok.frf L hL) hL fun z => I.ok.vF L z hL
      exact ⟨hk, ⟨L, _, hf, hn, e, hd⟩, ih (fun b hb => hs b (by unfold frs; rw [List.filterMap_cons, hf]; exact List.mem_cons_of_mem _ hb)) hr⟩
  exact all X.outer (fun _ hb => hb) I.ok.kF
theorem Inv.stack (I : Inv X pins σ H s) : s.heap.FunFrames X.base X.stack := by
  rcases I.ok.stk with e | ⟨e, hf⟩
  · rw [e]; exact I.kF
  · rw [e]
    obtain ⟨m, hn, _⟩ := I.loc
    refine .cons (by rw [I.ok.kind]; decide) hf hn ?_ I.kF
    exact Heap.get?_none_of_le (Nat.le_trans I.ok.bsz I.ok.above)
theorem Inv.jx (I : Inv X pins σ H s) : ∀ b ∈ frs X.stack, b ∈ X.env.locals :: X.fs := fun b hb => by
  rcases I.ok.stk with e | ⟨e, hf⟩
  · rw [e] at hb; exact List.mem_cons_of_mem _ hb
  · rw [e] at hb
    unfold frs at hb
    rw [List.filterMap_cons, hf] at hb
    exact hb
theorem Inv.nV (I : Inv X pins σ H s) : ∀ b ∈ frs X.stack, H b = none := fun b hb => by
  rcases List.mem_cons.mp (I.jx b hb) with e | hb
  · rw [e]; exact I.free
  · obtain ⟨_, o, ho, _⟩ := I.ok.kF.mem hb
    exact I.base.free b o ho (I.ok.frf b hb) fun z => I.ok.vF b z hb
theorem Inv.step {g' : Array GenState} {t' : Nat} {d' : Drawn} {ch : List Addr} (I : Inv X pins σ H s)
    (hch : ∀ b ∈ ch, (b ∈ X.ex \/ X.aQ.heap.objs.size <= b) /\ b ≠ X.env.locals /\ (∀ x c, X.env.cells.lookup x = some c -> c ≠ b) /\ ∀ p ∈ X.pn ++ pins, p.1 ≠ b)
    (keep : ∀ b o, b ≠ X.env.locals -> b ∉ X.fs -> b ∉ ch -> s.heap.get? b = some o -> H b = none -> h'.get? b = some o)
    (slot : ∀ b o, b ≠ X.env.locals -> b ∈ X.fs -> b ∉ ch -> s.heap.get? b = some o -> H b = none -> ∃ sl, h'.get? b = some { o with slots := sl }) (free : ∀ b o, b ∉ ch -> s.heap.get? b = some o -> H b = none -> H' b = none)
    (there : ∀ b o, b ∉ ch -> s.heap.get? b = some o -> ∃ o', h'.get? b = some o')
    (ly : ∀ b xs, H b = some (.tup xs) -> H' b = some (.tup xs)) (la : ∀ b o u, H b = some (.frz o u) -> H' b = some (.frz o u)) (lD : ∀ b ps, H b = some (.tbl ps) -> ∃ more, H' b = some (.tbl (ps ++ more)))
    (ns : ∀ m, s.heap.Ns X.env.locals m -> h'.Ns X.env.locals m) (hok : HOk X.prog X.w H' h') (hg : AllBare g') :
    Inv X pins σ H' { s with heap := h', gens := g', drawn := d', toks := t' } := by
  have neL : ∀ b o, X.aQ.heap.get? b = some o -> b ≠ X.env.locals := fun b o e => Nat.ne_of_lt (Nat.lt_of_lt_of_le (Heap.lt_size e) I.ok.above)
  have neC : ∀ b o, X.aQ.heap.get? b = some o -> b ∉ X.ex -> b ∉ ch := fun b o e hx hb => by
    rcases (hch b hb).1 with z | z
    · exact hx z
    · exact absurd (Nat.lt_of_lt_of_le (Heap.lt_size e) z) (Nat.lt_irrefl _)
  have cellK : ∀ x c, X.env.cells.lookup x = some c -> ∀ v, s.heap.IsCell c v -> h'.IsCell c v := fun x c e v ⟨o, ho, hd⟩ => by
    have nch : c ∉ ch := fun z => (hch c z).2.2.1 x c e rfl
    by_cases hc : c ∈ X.fs
    · obtain ⟨sl, q⟩ := slot c o (I.cne x c e) hc nch ho (I.gF x c e)
      exact ⟨_, q, hd⟩
    · exact ⟨o, keep c o (I.cne x c e) hc nch ho (I.gF x c e), hd⟩
  refine ⟨I.ok, I.os, hg, ⟨fun b o e n hb hx => ?_, fun b o e n hb hx => ?_, fun b o e n hx => ?_, fun b o e hx => ?_, fun b xs e => ly b xs (I.base.ly b xs e), fun b o xs e => la b o xs (I.base.la b o xs e), fun b ps e => ?_⟩, ?_, fun x c e => ?_, ?_, fun x c e => ?_, fun p hp => ?_, hok, I.len⟩
  · exact keep b o (neL b o e) hb (neC b o e hx) (I.base.keep b o e n hb hx) (I.base.free b o e n hx)
  · obtain ⟨sl, e1⟩ := I.base.slot b o e n hb hx
    obtain ⟨sl', e2⟩ := slot b _ (neL b o e) hb (neC b o e hx) e1 (I.base.free b o e n hx)
    exact ⟨sl', e2⟩
  · obtain ⟨o', e1⟩ := I.base.there b o e hx
    exact free b o' (neC b o e hx) e1 (I.base.free b o e n hx)
  · obtain ⟨o', e1⟩ := I.base.there b o e hx
    exact there b o' (neC b o e hx) e1
  · obtain ⟨m1, e1⟩ := I.base.lD b ps e
    obtain ⟨m2, e2⟩ := lD b _ e1
    exact ⟨m1 ++ m2, by rw [e2, Array.append_assoc]⟩
  · obtain ⟨m, hn, hl⟩ := I.loc
    refine ⟨m, ns m hn, fun i x v e1 e2 e3 => ?_⟩
    obtain ⟨u, r, l⟩ := hl i x v e1 e2 e3
    refine ⟨u, r, ?_⟩
    rcases l with l | ⟨k, c, e, z⟩
    · exact .inl l
    · exact .inr ⟨k, c, e, cellK x c e _ z⟩
  · obtain ⟨v, z⟩ := I.cell x c e
    exact ⟨v, cellK x c e v z⟩
  · obtain ⟨m, ⟨o, _, _, ho, _⟩, _⟩ := I.loc
    exact free _ o (fun z => (hch _ z).2.1 rfl) ho I.free
  · obtain ⟨v, o, ho, hd⟩ := I.cell x c e
    exact free c o (fun z => (hch c z).2.2.1 x c e rfl) ho (I.gF x c e)
  · obtain ⟨e, n, ne, nf, d⟩ := I.pin p hp
    have nch : p.1 ∉ ch := fun z => (hch p.1 z).2.2.2 p hp rfl
    exact ⟨keep p.1 p.2 ne nf nch e n, free p.1 p.2 nch e n, ne, nf, d⟩
theorem Inv.un {t' : Nat} (I : Inv X pins σ H s) (u : Un X.fs [] H H' s.heap h') (hok : HOk X.prog X.w H' h') : Inv X pins σ H' { s with heap := h', toks := t' } := by
  obtain ⟨m, ⟨o, es, ep, ho, r⟩, _⟩ := id I.loc
  obtain ⟨sl, hL⟩ := u.any ho I.free (by simp)
  exact I.step (g' := s.gens) (d' := s.drawn) (ch := []) (fun _ z => nomatch z) (fun b o _ hb _ e n => u.keep b o e n hb (by simp)) (fun b o _ hb _ e n => u.slot b o e n hb (by simp)) (fun b o _ e n => u.free b o e n (by simp)) (fun b o _ e => u.there b o e (by simp)) u.ly u.la u.lD (fun m' hm => by
    obtain ⟨o', es', ep', ho', r'⟩ := hm
    rw [ho] at ho'; cases ho'
    exact ⟨_, es', ep', hL, r'⟩) hok I.bare
theorem Inv.call {g' : Array GenState} {t' : Nat} {d' : Drawn} {ch : List Addr} (I : Inv X pins σ H s) (u : Un (frs X.stack) ch H H' s.heap h') (hok : HOk X.prog X.w H' h') (hg : AllBare g')
    (hch : ∀ b ∈ ch, (b ∈ X.ex \/ X.aQ.heap.objs.size <= b) /\ b ≠ X.env.locals /\ (∀ x c, X.env.cells.lookup x = some c -> c ≠ b) /\ ∀ p ∈ X.pn ++ pins, p.1 ≠ b) :
    Inv X pins σ H' { s with heap := h', gens := g', drawn := d', toks := t' } := by
  obtain ⟨m, ⟨o, es, ep, ho, r⟩, _⟩ := id I.loc
  obtain ⟨sl, hL⟩ := u.any ho I.free fun z => (hch _ z).2.1 rfl
  exact I.step (ch := ch) hch (fun b o hL hb hc e n => u.keep b o e n (fun z => (List.mem_cons.mp (I.jx b z)).elim hL hb) hc) (fun b o _ _ hc e n => u.any e n hc) (fun b o hc e n => u.free b o e n hc) (fun b o hc e => u.there b o e hc) u.ly u.la u.lD (fun m' hm => by
    obtain ⟨o', es', ep', ho', r'⟩ := hm
    rw [ho] at ho'; cases ho'
    exact ⟨_, es', ep', hL, r'⟩) hok hg
theorem Inv.turned {t' : Nat} {it : Addr} (I : Inv X pins σ H s) (k : ∀ b o, b ≠ it -> s.heap.get? b = some o -> h'.get? b = some o) (hn : H it = none) (hL : it ≠ X.env.locals)
    (h1 : it ∈ X.ex \/ X.aQ.heap.objs.size <= it) (h2 : ∀ x c, X.env.cells.lookup x = some c -> c ≠ it) (h3 : ∀ p ∈ X.pn ++ pins, p.1 ≠ it) : Inv X pins σ H { s with heap := h', toks := t' } := by
  have nit : ∀ b u, H b = some u -> b ≠ it := fun b u e z => by rw [z, hn] at e; cases e
  refine I.step (g' := s.gens) (d' := s.drawn) (ch := [it]) (fun b hb => ?_) (fun b o _ _ hc e _ => k b o (fun z => hc (by simp [z])) e) (fun b o _ _ hc e _ => ⟨o.slots, k b o (fun z => hc (by simp [z])) e⟩) (fun _ _ _ _ n => n)
    (fun b o hc e => ⟨o, k b o (fun z => hc (by simp [z])) e⟩) (fun _ _ e => e) (fun _ _ _ e => e) (fun b ps e => ⟨#[], by rw [e]; simp⟩) (fun m hm => ?_) (fun b u e => ?_) I.bare
  · have e : b = it := by simpa using hb
    subst e
    exact ⟨h1, hL, h2, h3⟩
  · obtain ⟨o, es, ep, ho, r⟩ := hm
    exact ⟨o, es, ep, k _ o (Ne.symm hL) ho, r⟩
  · refine (I.hok b u e).n9 (fun c v hc q => k c v ?_ q) (fun _ q => q) fun _ _ q => q
    rcases hc with z | z
    · rw [z]; exact nit b u e
    · exact nit c _ z
theorem Inv.tok (I : Inv X pins σ H s) (t : Nat) : Inv X pins σ H { s with toks := t } := I.un (h' := s.heap) (t' := t) Un.refl I.hok
theorem Inv.kept {t' : Nat} (I : Inv X pins σ H s) (k : ∀ b u, s.heap.get? b = some u -> h'.get? b = some u) : Inv X pins σ H { s with heap := h', toks := t' } := I.un (Un.kept k) (I.hok.kept k)
theorem Inv.laid {a : Addr} {o : HO} {t' : Nat} (I : Inv X pins σ H s) (k : ∀ b u, s.heap.get? b = some u -> h'.get? b = some u) (hp : s.heap.objs.size <= a) (new : bO X.prog X.w (upd H a o) h' a o) :
    Inv X pins σ (upd H a o) { s with heap := h', toks := t' } := I.un (Un.laid k hp (I.hok.fresh hp)) (I.hok.laid k hp new)
theorem Inv.write {x e : Addr} {o : HO} {t' : Nat} (I : Inv X pins σ H s) (mu : Mut (H x)) (he : e = x \/ H e = some (.own x)) (k : ∀ b u, b ≠ e -> s.heap.get? b = some u -> h'.get? b = some u) (heo : ∃ u, h'.get? e = some u)
    (new : bO X.prog X.w (upd H x o) h' x o) : Inv X pins σ (upd H x o) { s with heap := h', toks := t' } := I.un (Un.write mu he k heo) (I.hok.write mu he k heo new)
theorem Inv.kr {pins' : List (Addr × Obj)} (I : Inv X pins σ H s) (h : ∀ p ∈ pins', s.heap.get? p.1 = some p.2 /\ H p.1 = none /\ p.1 ≠ X.env.locals /\ p.1 ∉ X.fs /\ ∀ v, p.2.data ≠ .cell v) : Inv X pins' σ H s :=
  ⟨I.ok, I.os, I.bare, I.base, I.loc, I.cell, I.free, I.gF, fun p hp => (List.mem_append.mp hp).elim (fun z => I.pin p (List.mem_append_left _ z)) (h p), I.hok, I.len⟩
theorem pv {N : List Str} (hN : N.Nodup) {i j : Nat} {x : Str} (a : N[i]? = some x) (b : N[j]? = some x) : i = j := by
  obtain ⟨h1, e1⟩ := List.getElem?_eq_some_iff.mp a
  obtain ⟨h2, e2⟩ := List.getElem?_eq_some_iff.mp b
  exact (List.getElem_inj hN).mp (e1.trans e2.symm)
theorem sx {M : Model} {A : Around} {E : Value -> Shared -> Prop} {i : Nat} {x : Str} {v : V} {u : Value} {Q : Unit -> Shared -> Prop} (I : Inv X pins σ H s) (hN : X.N.Nodup) (hi : X.N[i]? = some x) (hx : Loc X.env.scope x) (r : RelV v u)
    (h : ∀ s', Inv X pins (σ.set i (some v)) H s' -> (∃ a, Heap.SameBut a s.heap s'.heap /\ (a = X.env.locals \/ X.env.cells.lookup x = some a)) -> Q () s') (hf : X.fn x = true \/ X.env.scope.names.lookup x = some .local := by first | exact .inl rfl | exact .inr rfl | assumption) : wpAny M A (storeName X.env x u) Q E s := by
  obtain ⟨m, hn, hl⟩ := id I.loc
  have hcls : (X.env.scope.kind == .class || (X.env.scope.kind == .module && X.env.locals != X.env.globals)) = false := by rw [I.ok.kind]; rfl
  have hiσ : i < σ.length := by rw [I.len]; exact (List.getElem?_eq_some_iff.mp hi).1
  have cne := I.cne
  have tracked : ∀ {a : Addr} {h' : Heap}, (∃ o, s.heap.get? a = some o /\ H a = none) -> Heap.SameBut a s.heap h' -> HOk X.prog X.w H h' := fun {a h'} ha hs b ob e => by
    obtain ⟨_, _, hfree⟩ := ha
    refine (I.hok b ob e).n9 (fun c w' hc q => (hs.2 c ?_).trans q) (fun _ q => q) fun _ _ q => q
    rintro rfl
    rcases hc with rfl | hc
    · rw [hfree] at e; cases e
    · rw [hfree] at hc; cases hc
  rcases hx with hk | hk
  · refine wpAny_storeName_local hk hn (fun h' hn' hs => ?_) hcls
    obtain ⟨oL, _, _, hoL, _⟩ := id hn
    refine h _ ⟨I.ok, I.os, I.bare, ⟨fun b o e n hb hx => ?_, fun b o e n hb hx => ?_, I.base.free, fun b o e hx => ?_, I.base.ly, I.base.la, I.base.lD⟩, ⟨_, hn', fun j y v' e1 e2 e3 => ?_⟩, fun y c e => ?_, I.free, I.gF, fun p hp => ?_, tracked ⟨oL, hoL, I.free⟩ hs, by simpa using I.len⟩ ⟨_, hs, .inl rfl⟩
    · exact (hs.2 b (Nat.ne_of_lt (Nat.lt_of_lt_of_le (Heap.lt_size e) I.ok.above))).trans (I.base.keep b o e n hb hx)
    · obtain ⟨sl, e1⟩ := I.base.slot b o e n hb hx
      exact ⟨sl, (hs.2 b (Nat.ne_of_lt (Nat.lt_of_lt_of_le (Heap.lt_size e) I.ok.above))).trans e1⟩
    · obtain ⟨o', e1⟩ := I.base.there b o e hx
      exact ⟨o', (hs.2 b (Nat.ne_of_lt (Nat.lt_of_lt_of_le (Heap.lt_size e) I.ok.above))).trans e1⟩
    · by_cases hj : j = i
      · subst hj
        rw [hi] at e1; cases e1
        rw [List.getElem?_set_self hiσ] at e2
        cases e2
        exact ⟨u, r, .inl ⟨hk, by simp⟩⟩
      · rw [List.getElem?_set_ne (Ne.symm hj)] at e2
        obtain ⟨u', r', q⟩ := hl j y v' e1 e2 e3
        refine ⟨u', r', ?_⟩
        rcases q with ⟨k, e⟩ | ⟨k, c, e, z⟩
        · refine .inl ⟨k, ?_⟩
          have : y ≠ x := fun e => hj (pv hN e1 (e ▸ hi))
          simp [this, e]
        · exact .inr ⟨k, c, e, z.sameBut hs (cne y c e)⟩
    · obtain ⟨w', z⟩ := I.cell y c e
      exact ⟨w', z.sameBut hs (cne y c e)⟩
    · obtain ⟨e, n, ne, nf, d⟩ := I.pin p hp
      exact ⟨(hs.2 p.1 ne).trans e, n, ne, nf, d⟩
  · have hfn : X.fn x = true := by
      rcases hf with z | z
      · exact z
      · rw [z] at hk; cases hk
    obtain ⟨c, hc⟩ := I.ok.has x (.inl hk)
    obtain ⟨w', z⟩ := I.cell x c hc
    refine wpAny_storeName_cell I.ok.kind hk hc z (fun h' hc' hs => ?_)
    obtain ⟨oc, hoc, hocd⟩ := id z
    refine h { s with heap := h' } ⟨I.ok, I.os, I.bare, ⟨fun b o e n hb hx => ?_, fun b o e n hb hx => ?_, I.base.free, fun b o e hx => ?_, I.base.ly, I.base.la, I.base.lD⟩, ⟨m, hn.sameBut hs (Ne.symm (cne x c hc)), fun j y v' e1 e2 e3 => ?_⟩, fun y c' e => ?_, I.free, I.gF, fun p hp => ?_, tracked ⟨oc, hoc, I.gF x c hc⟩ hs, by simpa using I.len⟩ ⟨c, hs, .inr hc⟩
    · exact (hs.2 b (Nat.ne_of_lt (Nat.lt_of_lt_of_le (Heap.lt_size e) (I.ok.cab x c hfn hc)))).trans (I.base.keep b o e n hb hx)
    · obtain ⟨sl, e1⟩ := I.base.slot b o e n hb hx
      exact ⟨sl, (hs.2 b (Nat.ne_of_lt (Nat.lt_of_lt_of_le (Heap.lt_size e) (I.ok.cab x c hfn hc)))).trans e1⟩
    · obtain ⟨o', e1⟩ := I.base.there b o e hx
      exact ⟨o', (hs.2 b (Nat.ne_of_lt (Nat.lt_of_lt_of_le (Heap.lt_size e) (I.ok.cab x c hfn hc)))).trans e1⟩
    · by_cases hj : j = i
      · subst hj
        rw [hi] at e1; cases e1
        rw [List.getElem?_set_self hiσ] at e2
        cases e2
        exact ⟨u, r, .inr ⟨.inl hk, c, hc, hc'⟩⟩
      · rw [List.getElem?_set_ne (Ne.symm hj)] at e2
        obtain ⟨u', r', q⟩ := hl j y v' e1 e2 e3
        refine ⟨u', r', ?_⟩
        rcases q with q | ⟨k, c', e, z'⟩
        · exact .inl q
        · refine .inr ⟨k, c', e, z'.sameBut hs ?_⟩
          rintro rfl
          exact hj (pv hN e1 (I.ok.inj _ _ _ e hc ▸ hi))
    · by_cases hcc : c' = c
      · subst hcc; exact ⟨_, hc'⟩
      · obtain ⟨w2, z2⟩ := I.cell y c' e
        exact ⟨w2, z2.sameBut hs hcc⟩
    · obtain ⟨e, n, ne, nf, d⟩ := I.pin p hp
      refine ⟨(hs.2 p.1 ?_).trans e, n, ne, nf, d⟩
      intro q
      rw [q, hoc] at e
      have q' : oc = p.2 := Option.some.inj e
      exact d w' (by rw [<- q']; exact hocd)
theorem dR {M : Model} {A : Around} {E : Value -> Shared -> Prop} {i : Nat} {x : Str} {v : V} {u : Value} {Q : Unit -> Shared -> Prop} (I : Inv X pins σ H s) (hN : X.N.Nodup) (hi : X.N[i]? = some x) (hx : Loc X.env.scope x) (r : RelV v u)
    (h : ∀ s', Inv X pins (σ.set i (some v)) H s' -> Q () s') (hf : X.fn x = true \/ X.env.scope.names.lookup x = some .local := by first | exact .inl rfl | exact .inr rfl | assumption) : wpAny M A (storeName X.env x u) Q E s :=
  sx I hN hi hx r (fun s' I' _ => h s' I') hf
theorem Inv.vi {s' : Shared} {ch : List Addr} (I : Inv X pins σ H s) (ho : s'.os = s.os) (u : Un (frs X.stack) ch H H' s.heap s'.heap) (hok : HOk X.prog X.w H' s'.heap) (hg : AllBare s'.gens)
    (hch : ∀ b ∈ ch, (b ∈ X.ex \/ X.aQ.heap.objs.size <= b) /\ b ≠ X.env.locals /\ (∀ x c, X.env.cells.lookup x = some c -> c ≠ b) /\ ∀ p ∈ X.pn ++ pins, p.1 ≠ b) : Inv X pins σ H' s' := by
  obtain ⟨h', g', d', t', o'⟩ := s'
  have e : o' = s.os := ho
  subst e
  exact I.call (g' := g') (t' := t') (d' := d') u hok hg hch
end
noncomputable abbrev XK := Value -> Option Addr -> Hp -> Prop
noncomputable abbrev St := List (Option V)
noncomputable abbrev VK := V -> Hp -> Prop
noncomputable abbrev TE := St -> Hp -> VK -> Prop
noncomputable abbrev TT := St -> Hp -> (Bool -> Hp -> Prop) -> Prop
noncomputable abbrev TA := St -> Hp -> (List V -> Hp -> Prop) -> Prop
structure Ends where
  nx : St -> Hp -> Prop
  rt : VK
  bk : St -> Hp -> Prop := fun _ _ => False
  ct : St -> Hp -> Prop := fun _ _ => False
noncomputable abbrev TS := Ends -> St -> Hp -> Prop
noncomputable def EP (X : Cx) (pins : List (Addr × Obj)) (σ : St) (Q : VK) (u : Value) (s' : Shared) : Prop := ∃ v H', Inv X pins σ H' s' /\ RelV v u /\ Q v H'
noncomputable def TP (X : Cx) (pins : List (Addr × Obj)) (σ : St) (Q : Bool -> Hp -> Prop) (b : Bool) (s' : Shared) : Prop := ∃ H', Inv X pins σ H' s' /\ Q b H'
noncomputable def AP (X : Cx) (pins : List (Addr × Obj)) (σ : St) (Q : List V -> Hp -> Prop) (us : List Value) (s' : Shared) : Prop := ∃ vs H', Inv X pins σ H' s' /\ Vals vs us /\ Q vs H'
noncomputable def SP (X : Cx) (pins : List (Addr × Obj)) (D : Ends) (f : Flow) (s' : Shared) : Prop :=
  match f with
  | .next => ∃ σ' H', Inv X pins σ' H' s' /\ D.nx σ' H'
  | .brk => ∃ σ' H', Inv X pins σ' H' s' /\ D.bk σ' H'
  | .cont => ∃ σ' H', Inv X pins σ' H' s' /\ D.ct σ' H'
  | .ret u => ∃ v σ' H', Inv X pins σ' H' s' /\ RelV v u /\ D.rt v H'
noncomputable def PE (X : Cx) (e : Expr) (t : TE) : Prop :=
  ∀ (pins : List (Addr × Obj)) (s : Shared) (σ : St) (H : Hp) (Q : VK), Inv X pins σ H s -> t σ H Q -> wpAny (model X.prog X.w) X.A (eval e X.env) (EP X pins σ Q) X.xe s
noncomputable def PT (X : Cx) (e : Expr) (t : TT) : Prop :=
  ∀ (pins : List (Addr × Obj)) (s : Shared) (σ : St) (H : Hp) (Q : Bool -> Hp -> Prop), Inv X pins σ H s -> t σ H Q -> wpAny (model X.prog X.w) X.A (isTrue e X.env (eval e X.env)) (TP X pins σ Q) X.xe s
noncomputable def PW (X : Cx) (e : Expr) (t : TT) : Prop :=
  ∀ (whole : Sem Value) (pins : List (Addr × Obj)) (s : Shared) (σ : St) (H : Hp) (Q : Bool -> Hp -> Prop), Inv X pins σ H s -> t σ H Q -> wpAny (model X.prog X.w) X.A (isTrue e X.env whole) (TP X pins σ Q) X.xe s
theorem PW.pt {X : Cx} {e : Expr} {t : TT} (h : PW X e t) : PT X e t := h _
noncomputable def PA (X : Cx) (es : List Expr) (t : TA) : Prop :=
  ∀ (pos : Pos) (pins : List (Addr × Obj)) (s : Shared) (σ : St) (H : Hp) (Q : List V -> Hp -> Prop), Inv X pins σ H s -> t σ H Q -> wpAny (model X.prog X.w) X.A (spliced (backTo pos (starEach es X.env))) (AP X pins σ Q) X.xe s
noncomputable def PS (X : Cx) (st : Stmt) (t : TS) : Prop :=
  ∀ (pins : List (Addr × Obj)) (s : Shared) (σ : St) (H : Hp) (D : Ends), Inv X pins σ H s -> t D σ H -> wpAny (model X.prog X.w) X.A (exec st X.env) (SP X pins D) X.xe s
noncomputable def PSs (X : Cx) (st : List Stmt) (t : TS) : Prop :=
  ∀ (pins : List (Addr × Obj)) (s : Shared) (σ : St) (H : Hp) (D : Ends), Inv X pins σ H s -> t D σ H -> wpAny (model X.prog X.w) X.A (execs st X.env) (SP X pins D) X.xe s
theorem thn {α : Type} {t : Sem α} {Q Q' : α -> Shared -> Prop} {M : Model} {A : Around} {E : Value -> Shared -> Prop} {s : Shared} (h : wpAny M A t Q E s) (hQ : ∀ a s, Q a s -> Q' a s) : wpAny M A t Q' E s := wpAny_mono h hQ fun _ _ x => x
section
variable {X : Cx}
noncomputable def BX (i : Nat) : TE := fun σ H Q => ∃ v, σ[i]? = some (some v) /\ Q v H
noncomputable def tC (v : V) : TE := fun _ H Q => Q v H
theorem zg {i : Nat} {x : Str} {pos : Pos} (hN : X.N[i]? = some x) (hv : Vis X.env.scope x) (hd : (x == ("__debug__" : Str)) = false := by decide) (hcd : (x == ("__classdict__" : Str)) = false := by decide) : PE X (.Name x pos) (BX i) := by
  intro pins s σ H Q I h
  obtain ⟨v, e, h⟩ := h
  obtain ⟨m, hn, hl⟩ := I.loc
  obtain ⟨u, r, l⟩ := hl i x v hN e hv
  have fin : EP X pins σ Q u s := ⟨v, H, I, r, h⟩
  rcases l with ⟨hk, hm⟩ | ⟨hk, c, hc, hcell⟩
  · exact wpAny_Name (wpAny_loadName_local I.ok.kind hk hn hm fin) hd
  · rcases hk with hk | hk
    · exact wpAny_Name (wpAny_loadName_cell I.ok.kind hk hc hcell fin) hd
    · exact wpAny_Name (wpAny_loadName_free I.ok.kind hk hc hcell fin hcd) hd
theorem yN {i j pos} : PE X (.Constant (.int i) j pos) (tC (.int i)) := fun _ _ _ H _ I h => wpAny_Constant_int ⟨.int i, H, I.tok _, ⟨_, rfl⟩, h⟩
theorem Ar {b j pos} : PE X (.Constant (.bool b) j pos) (tC (.bl b)) := fun _ _ _ H _ I h => Constant_bool ⟨.bl b, H, I, rfl, h⟩
noncomputable def Gl (X : Cx) (x : Str) : Prop := X.env.kindOf x = some .globalImplicit
theorem rn {E : Value -> Shared -> Prop} {pins : List (Addr × Obj)} {s : Shared} {σ : St} {H : Hp} {x : Str} {u : Value} {pos : Pos} {Q : Value -> Shared -> Prop} (I : Inv X pins σ H s) (hg : Gl X x) (hm : X.mg x = some u) (h : Q u s)
    (hd : (x == ("__debug__" : Str)) = false := by decide) : wpAny (model X.prog X.w) X.A (eval (.Name x pos) X.env) Q E s :=
  Calls.Name_function_global I.ok.kind hg (Calls.loadGlobal_global (by rw [I.ok.glob]; exact I.mod.glob.keeps I.bk) hm h) hd
theorem kK {E : Value -> Shared -> Prop} {pins : List (Addr × Obj)} {s : Shared} {σ : St} {H : Hp} {x : Str} {u : Value} {pos : Pos} {Q : Value -> Shared -> Prop} (I : Inv X pins σ H s) (hg : Gl X x) (hm : X.mg x = none) (hv : bootBuiltins x = some u) (h : Q u s)
    (hn : x ≠ "__name__" := by decide) (hd : (x == ("__debug__" : Str)) = false := by decide) : wpAny (model X.prog X.w) X.A (eval (.Name x pos) X.env) Q E s := by
  obtain ⟨mb, h1, h2⟩ := I.mod.blt
  exact Calls.Name_function_global I.ok.kind hg (Calls.loadGlobal_builtin (by rw [I.ok.glob]; exact I.mod.glob.keeps I.bk) hm (by rw [I.ok.blt]; exact h1.keeps I.bk) ((h2 x hn).trans hv) h) hd
theorem wd {x : Str} {v : V} {u : Value} {pos : Pos} (hg : Gl X x) (hm : X.mg x = some u) (r : RelV v u) (hd : (x == ("__debug__" : Str)) = false := by decide) : PE X (.Name x pos) (tC v) :=
  fun _ _ _ H _ I h => rn I hg hm ⟨v, H, I, r, h⟩ hd
theorem xf {x : Str} {v : V} {u : Value} {pos : Pos} (hg : Gl X x) (hm : X.mg x = none) (hv : bootBuiltins x = some u) (r : RelV v u) (hn : x ≠ "__name__" := by decide) (hd : (x == ("__debug__" : Str)) = false := by decide) : PE X (.Name x pos) (tC v) :=
  fun _ _ _ H _ I h => kK I hg hm hv ⟨v, H, I, r, h⟩ hn hd
variable {a b : Expr} {ta tb : TE} {pos : Pos}
variable {tA tB' : TT} {rest : List Expr}
noncomputable def CF (t u : TT) : TT := fun σ H Q => t σ H fun c H1 => if c = true then u σ H1 Q else Q false H1
noncomputable def tOr (t u : TT) : TT := fun σ H Q => t σ H fun c H1 => if c = true then Q true H1 else u σ H1 Q
noncomputable def Cu (t : TT) : TT := fun σ H Q => t σ H fun c H1 => Q (!c) H1
theorem pw_and1 (ha : PT X a tA) : PW X (.BoolOp .And [a] pos) tA := by
  intro wh pins s σ H Q I h
  refine isTrue_and (thn (ha pins s σ H Q I h) fun c s1 e => ?_)
  cases c with
  | true => exact isTrue_and_nil e
  | false => exact e
theorem pw_or1 (ha : PT X a tA) : PW X (.BoolOp .Or [a] pos) tA := by
  intro wh pins s σ H Q I h
  refine isTrue_or (thn (ha pins s σ H Q I h) fun c s1 e => ?_)
  cases c with
  | false => exact isTrue_or_nil e
  | true => exact e
theorem pw_and (ha : PT X a tA) (hb : PW X (.BoolOp .And (b :: rest) pos) tB') : PW X (.BoolOp .And (a :: b :: rest) pos) (CF tA tB') := by
  intro wh pins s σ H Q I h
  refine isTrue_and (thn (ha pins s σ H _ I h) fun c s1 ⟨H1, I1, q1⟩ => ?_)
  cases c with
  | true => exact hb wh pins s1 σ H1 Q I1 q1
  | false => exact ⟨H1, I1, q1⟩
theorem pw_or (ha : PT X a tA) (hb : PW X (.BoolOp .Or (b :: rest) pos) tB') : PW X (.BoolOp .Or (a :: b :: rest) pos) (tOr tA tB') := by
  intro wh pins s σ H Q I h
  refine isTrue_or (thn (ha pins s σ H _ I h) fun c s1 ⟨H1, I1, q1⟩ => ?_)
  cases c with
  | true => exact ⟨H1, I1, q1⟩
  | false => exact hb wh pins s1 σ H1 Q I1 q1
theorem yh (ha : PT X a tA) : PT X (.UnaryOp .Not a pos) (Cu tA) := by
  intro pins s σ H Q I h
  exact isTrue_not (ha pins s σ H (fun c H1 => Q (!c) H1) I h)
noncomputable def Aw (ta tb : TE) : TE := fun σ H Q => ta σ H fun x H1 => ∃ c, x = .bl c /\ if c = true then tb σ H1 Q else Q (.bl false) H1
noncomputable def AM (ta : TE) : TE := fun σ H Q => ta σ H fun x H1 => ∃ c, x = .bl c /\ Q (.bl (!c)) H1
theorem yX {op} {t : TE} (h : PE X a t) : PE X (.BoolOp op [a] pos) t := fun pins s σ H Q I hw => BoolOp_one (h pins s σ H Q I hw)
theorem yq (ha : PE X a ta) (hb : PE X (.BoolOp .And (b :: rest) pos) tb) : PE X (.BoolOp .And (a :: b :: rest) pos) (Aw ta tb) := by
  intro pins s σ H Q I h
  refine BoolOp_and (thn (ha pins s σ H _ I h) fun v s1 ⟨x, H1, I1, r1, q1⟩ => ?_)
  obtain ⟨c, rfl, q1⟩ := q1
  cases r1
  refine wpAny_truthy_bool ?_
  cases c with
  | true => exact hb pins s1 σ H1 Q I1 q1
  | false => exact ⟨.bl false, H1, I1, rfl, q1⟩
theorem yd (ha : PE X a ta) : PE X (.UnaryOp .Not a pos) (AM ta) := by
  intro pins s σ H Q I h
  refine UnaryOp_ (thn (ha pins s σ H _ I h) fun v s1 ⟨x, H1, I1, r1, q1⟩ => ?_)
  obtain ⟨c, rfl, q1⟩ := q1
  cases r1
  exact not_of (wpAny_truthy_bool ⟨.bl (!c), H1, I1, rfl, q1⟩)
noncomputable def tIf (t : TT) (ta tb : TE) : TE := fun σ H Q => t σ H fun c H1 => if c = true then ta σ H1 Q else tb σ H1 Q
theorem sX {c : Expr} (hc : PT X c tA) (ha : PE X a ta) (hb : PE X b tb) : PE X (.IfExp c a b pos) (tIf tA ta tb) := by
  intro pins s σ H Q I h
  refine wpAny_IfExp (thn (hc pins s σ H _ I h) fun d s1 ⟨H1, I1, q1⟩ => ?_)
  cases d with
  | true => exact ha pins s1 σ H1 Q I1 q1
  | false => exact hb pins s1 σ H1 Q I1 q1
end
noncomputable def SqL (K : PySem.W.Frag) (H : Hp) (a : Addr) (xs : List V) : Prop :=
  Rd H a (.lst xs) ∨
    ∃ (o : Obj) (its : Array Value) (n : Nat), K.lookup a = some o /\ o.cls = .type "list" /\ o.dict = none /\ o.data = .seq its n /\ its.size <= sizeLine /\ Vals xs its.toList
noncomputable def SqT (K : PySem.W.Frag) (H : Hp) (a : Addr) (xs : List V) : Prop :=
  Rd H a (.tup xs) ∨
    ∃ (o : Obj) (its : Array Value) (n : Nat), K.lookup a = some o /\ o.cls = .type "tuple" /\ o.data = .seq its n /\ its.size <= sizeLine /\ Vals xs its.toList
noncomputable def BW : Value -> Option V
  | .none => some .non
  | .bool b => some (.bl b)
  | .int i _ => some (.int i)
  | .str x _ => some (.str x)
  | .bytes b _ => some (.byt b)
  | .float b _ => some (.flt b)
  | .ref a => some (.ref a)
  | .type n => some (.ty n)
  | _ => none
theorem RelV.abs {x : V} {u : Value} (r : RelV x u) : BW u = some x := by
  cases x with
  | non => cases r; rfl
  | bl _ => cases r; rfl
  | int _ => obtain ⟨t, rfl⟩ := r; rfl
  | str _ => obtain ⟨t, rfl⟩ := r; rfl
  | byt _ => obtain ⟨t, rfl⟩ := r; rfl
  | flt _ => obtain ⟨t, rfl⟩ := r; rfl
  | ref _ => cases r; rfl
  | ty _ => cases r; rfl
theorem RelV.inj {x y : V} {u : Value} (r : RelV x u) (q : RelV y u) : x = y := Option.some.inj (r.abs.symm.trans q.abs)
theorem Vals.inj : ∀ {xs ys : List V} {us : List Value}, Vals xs us -> Vals ys us -> xs = ys
  | _, _, _, .nil, .nil => rfl
  | _, _, _, .cons r t, .cons r' t' => by rw [r.inj r', Vals.inj t t']
section
variable {X : Cx} {pins : List (Addr × Obj)} {σ : St} {H : Hp} {s : Shared} {a : Addr} {xs ys : List V}
theorem SqL.of {K : PySem.W.Frag} (h : H a = some (.lst xs)) : SqL K H a xs := .inl (.inl h)
theorem SqT.of {K : PySem.W.Frag} (h : H a = some (.tup xs)) : SqT K H a xs := .inl (.inl h)
theorem Inv.list (I : Inv X pins σ H s) (h : SqL X.K H a xs) : ∃ its : List Value, Vals xs its /\ PlainL s.heap a its.toArray /\ xs.length <= sizeLine := by
  rcases h with h | ⟨o, its, n, hk, hc, hd, hs, hz, r⟩
  · obtain ⟨z, its, n, r, e⟩ := h.ok I.hok
    exact ⟨its, r, ⟨_, n, e, rfl, rfl, rfl⟩, z⟩
  · refine ⟨its.toList, r, ⟨o, n, I.kIn a o hk, hc, hd, by simpa using hs⟩, ?_⟩
    have e := r.length
    simp only [Array.length_toList] at e
    omega
theorem Inv.tuple (I : Inv X pins σ H s) (h : SqT X.K H a xs) : ∃ its : List Value, Vals xs its /\ IsTup s.heap a its.toArray /\ xs.length <= sizeLine := by
  rcases h with h | ⟨o, its, n, hk, hc, hs, hz, r⟩
  · obtain ⟨z, its, r, p⟩ := h.ok I.hok
    exact ⟨its, r, p.tup, z⟩
  · refine ⟨its.toList, r, ⟨o, I.kIn a o hk, hc, n, by simpa using hs⟩, ?_⟩
    have e := r.length
    simp only [Array.length_toList] at e
    omega
theorem Inv.oD (I : Inv X pins σ H s) (h : SqL X.K H a xs) (h' : SqL X.K H a ys) : xs = ys := by
  obtain ⟨its, r, ⟨o, n, e, _, _, d⟩, _⟩ := I.list h
  obtain ⟨its', r', ⟨o', n', e', _, _, d'⟩, _⟩ := I.list h'
  rw [e] at e'; cases e'
  rw [d] at d'
  injection d' with d1 _
  have : its = its' := by simpa using congrArg Array.toList d1
  subst this
  exact r.inj r'
theorem Inv.mE (I : Inv X pins σ H s) (h : SqT X.K H a xs) (h' : SqT X.K H a ys) : xs = ys := by
  obtain ⟨its, r, ⟨o, e, _, n, d⟩, _⟩ := I.tuple h
  obtain ⟨its', r', ⟨o', e', _, n', d'⟩, _⟩ := I.tuple h'
  rw [e] at e'; cases e'
  rw [d] at d'
  injection d' with d1 _
  have : its = its' := by simpa using congrArg Array.toList d1
  subst this
  exact r.inj r'
end
noncomputable abbrev Cx.lz (X : Cx) (E : Value -> Shared -> Prop) : Cx := { X with xe := E }
noncomputable abbrev Cx.nox (X : Cx) : Cx := X.lz fun _ _ => False
theorem Cx.Ok.lz {X : Cx} (ok : X.Ok) (E : Value -> Shared -> Prop) : (X.lz E).Ok :=
  ⟨ok.mod, ok.kind, ok.glob, ok.blt, ok.above, ok.inj, ok.has, ok.cab, ok.hd, ok.frames, ok.stk, ok.exf, ok.bs, ok.bsz, ok.rW, ok.vF, ok.kF, ok.frf⟩
theorem Cx.Ok.gu {X : Cx} {E : Value -> Shared -> Prop} (ok : (X.lz E).Ok) : X.Ok :=
  ⟨ok.mod, ok.kind, ok.glob, ok.blt, ok.above, ok.inj, ok.has, ok.cab, ok.hd, ok.frames, ok.stk, ok.exf, ok.bs, ok.bsz, ok.rW, ok.vF, ok.kF, ok.frf⟩
section
variable {X : Cx} {pins : List (Addr × Obj)} {σ : St} {H : Hp} {s : Shared} {E : Value -> Shared -> Prop}
theorem Inv.lz (I : Inv X pins σ H s) (E : Value -> Shared -> Prop) : Inv (X.lz E) pins σ H s := ⟨I.ok.lz E, I.os, I.bare, I.base, I.loc, I.cell, I.free, I.gF, I.pin, I.hok, I.len⟩
theorem Inv.gu (I : Inv (X.lz E) pins σ H s) : Inv X pins σ H s := ⟨I.ok.gu, I.os, I.bare, I.base, I.loc, I.cell, I.free, I.gF, I.pin, I.hok, I.len⟩
theorem SP.gu {D : Ends} {f : Flow} {s' : Shared} (h : SP (X.lz E) pins D f s') : SP X pins D f s' := by
  cases f with
  | next => obtain ⟨σ', H', I, q⟩ := h; exact ⟨σ', H', I.gu, q⟩
  | brk => obtain ⟨σ', H', I, q⟩ := h; exact ⟨σ', H', I.gu, q⟩
  | cont => obtain ⟨σ', H', I, q⟩ := h; exact ⟨σ', H', I.gu, q⟩
  | ret u => obtain ⟨v, σ', H', I, r, q⟩ := h; exact ⟨v, σ', H', I.gu, r, q⟩
theorem PSs.nox {st : List Stmt} {t : TS} (h : PSs X.nox st t) : PSs X st t := fun pins s σ H D I hw =>
  wpAny_mono (h pins s σ H D (I.lz _) hw) (fun _ _ q => q.gu) fun _ _ z => False.elim z
end
section
variable {X : Cx} {st : Stmt} {rest : List Stmt} {t u : TS} {e : Expr} {te : TE} {pos : Pos}
noncomputable def AD : TS := fun D σ H => D.nx σ H
noncomputable def B5 (t u : TS) : TS := fun D σ H => t { D with nx := u D } σ H
theorem wu : PSs X [] AD := fun _ _ σ H _ I h => wpAny_execs_nil ⟨σ, H, I, h⟩
theorem t8 (h1 : PS X st t) (h2 : PSs X rest u) : PSs X (st :: rest) (B5 t u) := by
  intro pins s σ H D I h
  refine wpAny_execs_cons (thn (h1 pins s σ H { D with nx := u D } I h) fun f s1 q => ?_)
  cases f with
  | next =>
    obtain ⟨σ', H', I', q⟩ := q
    exact h2 pins s1 σ' H' D I' q
  | ret v => exact q
  | brk => exact q
  | cont => exact q
theorem wt (h1 : PS X st t) : PSs X [st] t := by
  intro pins s σ H D I h
  refine wpAny_execs_cons (thn (h1 pins s σ H D I h) fun f s1 q => ?_)
  cases f with
  | next => exact wpAny_execs_nil q
  | ret v => exact q
  | brk => exact q
  | cont => exact q
theorem Inv.quiet {pins : List (Addr × Obj)} {σ : St} {H : Hp} {s : Shared} (I : Inv X pins σ H s) : interactive X.env = false := by simp [interactive, I.ok.kind]
noncomputable def Bb (te : TE) : TS := fun D σ H => te σ H fun _ H1 => D.nx σ H1
theorem vL (he : PE X e te) (hs : swapsWith e none pos.line X.env = pure false := by rfl) : PS X (.Expr e pos) (Bb te) := by
  intro pins s σ H D I h
  exact wpAny_Expr_any (thn (he pins s σ H _ I h) fun v s1 ⟨x, H1, I1, r1, q1⟩ => ⟨σ, H1, I1, q1⟩) I.quiet hs
noncomputable def B8 (te : TE) : TS := fun D σ H => te σ H D.rt
theorem xZ (he : PE X e te) : PS X (.Return (some e) pos) (B8 te) := by
  intro pins s σ H D I h
  exact wpAny_Return_some (thn (he pins s σ H _ I h) fun v s1 ⟨x, H1, I1, r1, q1⟩ => ⟨x, σ, H1, I1, r1, q1⟩)
noncomputable def BB (c : TT) (t u : TS) : TS := fun D σ H => c σ H fun b H1 => if b = true then t D σ H1 else u D σ H1
theorem AO {c : Expr} {a b : List Stmt} {tc : TT} (hc : PT X c tc) (ha : PSs X a t) (hb : PSs X b u) : PS X (.If c a b pos) (BB tc t u) := by
  intro pins s σ H D I h
  refine wpAny_If (thn (hc pins s σ H _ I h) fun d s1 ⟨H1, I1, q1⟩ => ?_)
  cases d with
  | true => exact ha pins s1 σ H1 D I1 q1
  | false => exact hb pins s1 σ H1 D I1 q1
noncomputable def zk : TS := fun _ _ _ => False
theorem tN : PS X st zk := fun _ _ _ _ _ _ h => h.elim
end
noncomputable abbrev TG := V -> St -> Hp -> (St -> Hp -> Prop) -> Prop
noncomputable abbrev TGs := List V -> St -> Hp -> (St -> Hp -> Prop) -> Prop
noncomputable def PG (X : Cx) (target : Expr) (t : TG) : Prop :=
  ∀ (pins : List (Addr × Obj)) (s : Shared) (σ : St) (H : Hp) (v : V) (u : Value) (Q : St -> Hp -> Prop), Inv X pins σ H s -> RelV v u -> t v σ H Q →
    wpAny (model X.prog X.w) X.A (assign target X.env u) (fun _ s' => ∃ σ' H', Inv X pins σ' H' s' /\ Q σ' H') X.xe s
noncomputable def PGs (X : Cx) (ts : List Expr) (t : TGs) : Prop :=
  ∀ (pins : List (Addr × Obj)) (s : Shared) (σ : St) (H : Hp) (vs : List V) (us : List Value) (Q : St -> Hp -> Prop), Inv X pins σ H s -> Vals vs us -> t vs σ H Q →
    wpAny (model X.prog X.w) X.A (assignInOrder ((assignEach ts X.env).map (·.2)) us) (fun _ s' => ∃ σ' H', Inv X pins σ' H' s' /\ Q σ' H') X.xe s
noncomputable abbrev s_ := V -> V -> V -> Hp -> (Hp -> Prop) -> Prop
noncomputable def ye (X : Cx) (t : s_) : Prop :=
  ∀ (pins : List (Addr × Obj)) (s : Shared) (σ : St) (H : Hp) (o i v : V) (ov iv u : Value) (Q : Hp -> Prop), Inv X pins σ H s -> RelV o ov -> RelV i iv -> RelV v u -> t o i v H Q →
    wpAny (model X.prog X.w) X.A (setItem ov iv u) (fun _ s' => ∃ H', Inv X pins σ H' s' /\ Q H') X.xe s
section
variable {X : Cx} {pos : Pos}
noncomputable def ik (i : Nat) : TG := fun v σ H Q => Q (σ.set i (some v)) H
theorem bE {i : Nat} {x : Str} (hN : X.N.Nodup) (hi : X.N[i]? = some x) (hx : Loc X.env.scope x) (hf : X.fn x = true \/ X.env.scope.names.lookup x = some .local := by first | exact .inl rfl | exact .inr rfl | assumption) : PG X (.Name x pos) (ik i) := by
  intro pins s σ H v u Q I r h
  exact wpAny_assign_Name (dR I hN hi hx r (fun s' I' => ⟨_, H, I', h⟩) hf)
noncomputable def ze : TGs := fun vs σ H Q => vs = [] /\ Q σ H
noncomputable def mI (t : TG) (u : TGs) : TGs := fun vs σ H Q => ∃ v r, vs = v :: r /\ t v σ H fun σ' H' => u r σ' H' Q
theorem kj : PGs X [] ze := by
  intro pins s σ H vs us Q I r h
  obtain ⟨e, h⟩ := h
  subst e
  cases r
  exact assignInOrder_nil ⟨σ, H, I, h⟩
theorem dy {e : Expr} {es : List Expr} {t : TG} {u : TGs} (h1 : PG X e t) (h2 : PGs X es u)
    (hs : (assignEach (e :: es) X.env).map (·.2) = assign e X.env :: (assignEach es X.env).map (·.2) := by rfl) : PGs X (e :: es) (mI t u) := by
  intro pins s σ H vs us Q I r h
  obtain ⟨v, vr, e1, h⟩ := h
  subst e1
  cases r with
  | cons r rr =>
    rw [hs]
    refine assignInOrder_cons (thn (h1 pins s σ H _ _ _ I r h) fun _ s1 ⟨σ1, H1, I1, q1⟩ => ?_)
    exact h2 pins s1 σ1 H1 _ _ Q I1 rr q1
noncomputable def xR (K : PySem.W.Frag) (n : Nat) (t : TGs) : TG := fun v σ H Q => ∃ a xs, v = .ref a /\ SqT K H a xs /\ xs.length = n /\ t xs σ H Q
theorem nu {es : List Expr} {k : Nat} {t : TGs} {n : Nat} (hc : X.calm = true) (h : PGs X es t)
    (hn : (assignEach es X.env).length = n := by rfl) (hst : (assignEach es X.env).findIdx? (·.1) = none := by rfl) : PG X (.Tuple es k pos) (xR X.K n t) := by
  intro pins s σ H v u Q I r hw
  obtain ⟨a, xs, e1, hq, hl, hw⟩ := hw
  subst e1
  cases r
  obtain ⟨its, rv, ht, hz⟩ := I.tuple hq
  refine assign_Tuple_tuple (I.ok.hd hc) ht (by simp [hn, <- hl, rv.length]) hst fun h' hx => ?_
  have I1 : Inv X pins σ H { s with heap := h' } := I.kept (t' := s.toks) fun b o e => hx b o (Nat.ne_of_lt (Heap.lt_size e)) e
  exact h pins _ σ H xs _ Q I1 (by simpa using rv) hw
noncomputable def B6 (to ti : TE) (t : s_) : TG := fun v σ H Q => to σ H fun o H1 => ti σ H1 fun i H2 => t o i v H2 fun H3 => Q σ H3
theorem yL {o i : Expr} {to ti : TE} {t : s_} (ho : PE X o to) (hi : PE X i ti) (hs : ye X t)
    (ha : ∀ v, assign (.Subscript o i pos) X.env v = (do
      let ov ← holding [v] (eval o X.env)
      let iv ← holding [v, ov] (eval i X.env)
      standAt pos
      holding [v, ov, iv] (setItem ov iv v)
      release [v, ov, iv] []) := by intro _; rfl) : PG X (.Subscript o i pos) (B6 to ti t) := by
  intro pins s σ H v u Q I r h
  rw [ha]
  refine wpAny_bind (wpAny_holding (thn (ho pins s σ H _ I h) fun ov s1 ⟨x, H1, I1, r1, q1⟩ => ?_))
  refine wpAny_bind (wpAny_holding (thn (hi pins s1 σ H1 _ I1 q1) fun iv s2 ⟨y, H2, I2, r2, q2⟩ => ?_))
  refine wpAny_bind (wpAny_standAt (wpAny_bind (wpAny_holding (thn (hs pins s2 σ H2 x y v ov iv u _ I2 r1 r2 r q2) fun _ s3 ⟨H3, I3, q3⟩ => ?_))))
  exact wpAny_release ⟨σ, H3, I3, q3⟩
noncomputable def AH (te : TE) (g : TG) : TS := fun D σ H => te σ H fun x H1 => g x σ H1 D.nx
theorem sZ {tg e : Expr} {te : TE} {g : TG} (he : PE X e te) (hg : PG X tg g) (hs : swapsWithSole [tg] e pos.line X.env = pure false := by rfl) (hw : swappedStores [tg] e X.env = pure none := by rfl)
    (h1 : (assignEach [tg] X.env).map (·.2) = [assign tg X.env] := by rfl) : PS X (.Assign [tg] e pos) (AH te g) := by
  intro pins s σ H D I h
  refine wpAny_Assign_stores (thn (he pins s σ H _ I h) fun v s1 ⟨x, H1, I1, r1, q1⟩ => ?_) hs hw
  rw [h1]
  exact thn (hg pins s1 σ H1 x v _ I1 r1 q1) fun _ s2 q => q
theorem zC {i : Nat} {x : Str} {e : Expr} {te : TE} {pos' : Pos} (hN : X.N.Nodup) (hi : X.N[i]? = some x) (hx : Loc X.env.scope x) (he : PE X e te) (hs : swapsWith e (some (.Name x pos')) pos.line X.env = pure false := by rfl) (hf : X.fn x = true \/ X.env.scope.names.lookup x = some .local := by first | exact .inl rfl | exact .inr rfl | assumption) :
    PS X (.Assign [.Name x pos'] e pos) (AH te (ik i)) := by
  intro pins s σ H D I h
  refine wpAny_Assign_Name (thn (he pins s σ H _ I h) fun v s1 ⟨y, H1, I1, r1, q1⟩ => ?_) hs
  exact dR I1 hN hi hx r1 (fun s2 I2 => ⟨_, H1, I2, q1⟩) hf
noncomputable def Cw (i j : Nat) (ta : TA) : TS := fun D σ H => ta σ H fun vs H1 => ∃ v w, vs = [v, w] /\ D.nx ((σ.set i (some v)).set j (some w)) H1
theorem yp {i j : Nat} {x y : Str} {a b : Expr} {ta : TA} {px py pt : Pos} {kt k2 pt2} (hc : X.calm = true) (hN : X.N.Nodup) (hi : X.N[i]? = some x) (hj : X.N[j]? = some y) (hij : i ≠ j)
    (hx : X.env.scope.names.lookup x = some .local) (hy : X.env.scope.names.lookup y = some .local) (ha : PA X [a, b] ta)
    (hw : swappedStores [.Tuple [.Name x px, .Name y py] kt pt] (.Tuple [a, b] k2 pt2) X.env = pure (some [x, y]))
    (hs : swapsWithSole [.Tuple [.Name x px, .Name y py] kt pt] (.Tuple [a, b] k2 pt2) pos.line X.env = pure false := by rfl) :
    PS X (.Assign [.Tuple [.Name x px, .Name y py] kt pt] (.Tuple [a, b] k2 pt2) pos) (Cw i j ta) := by
  intro pins s σ H D I h
  rw [exec_Assign_arm]
  refine wpAny_bind (wpAny_standAt ?_)
  rw [hs]
  refine wpAny_bind (wpAny_pure ?_)
  rw [if_neg (by decide)]
  refine wpAny_bind (Tuple_ (thn (ha _ pins s σ H _ I h) fun us s1 ⟨vs, H1, I1, r1, q1⟩ => ?_))
  obtain ⟨v, w, e1, q1⟩ := q1
  subst e1
  obtain ⟨u1, u2, rfl, rv, rw'⟩ : ∃ u1 u2, us = [u1, u2] /\ RelV v u1 /\ RelV w u2 := by
    cases r1 with
    | cons p q =>
      cases q with
      | cons p' q' =>
        cases q'
        exact ⟨_, _, rfl, p, p'⟩
  refine wpAny_newObj_type ?_ (by show 2 <= sizeLine; decide)
  have I2 : Inv X pins σ H1 { s1 with heap := s1.heap.push { cls := .type "tuple", data := .seq [u1, u2].toArray } } := I1.kept (t' := s1.toks) fun b o e => Heap.get?_push_of_some _ e
  rw [hw]
  refine wpAny_bind (wpAny_pure ?_)
  show wpAny (model X.prog X.w) X.A (do rule "assign.swapped-stores"; let items ← unpackItems (.ref s1.heap.objs.size) 2 none; assignInOrder [fun v => bindName X.env y v, fun v => bindName X.env x v] items.reverse; pure Flow.next) _ _ _
  refine wpAny_bind (wpAny_rule (wpAny_bind (unpackItems_tuple (items := #[u1, u2]) (I.ok.hd hc) (IsTup.new s1.heap _) fun h' hx' => ?_)))
  have I3 := I2.kept (h' := h') (t' := s1.toks) fun b o e => hx' b o (Nat.ne_of_lt (Heap.lt_size e)) e
  show wpAny _ _ (assignInOrder [fun v => bindName X.env y v, fun v => bindName X.env x v] [u2, u1] >>= fun _ => pure Flow.next) _ _ _
  refine wpAny_bind (assignInOrder_cons (wpAny_bindName (dR I3 hN hj (.inl hy) rw' (fun s2 I4 => ?_) (.inr hy))))
  refine assignInOrder_cons (wpAny_bindName (dR I4 hN hi (.inl hx) rv (fun s3 I5 => assignInOrder_nil (wpAny_pure ?_)) (.inr hx)))
  rw [List.set_comm _ _ (Ne.symm hij)] at I5
  exact ⟨_, H1, I5, q1⟩
end
section
variable {X : Cx} {pos : Pos}
noncomputable def yu (c : TT) (tb : TS) : TS := fun D σ H => ∃ W : Nat -> St -> Hp -> Prop, (∃ m, W m σ H) /\ ∀ m σ H, W m σ H →
  c σ H fun b H1 => if b = true then ∃ N : St -> Hp -> Prop, (∀ σ' H', N σ' H' -> ∃ m', m' < m /\ W m' σ' H') /\ tb { D with nx := N, ct := N, bk := D.nx } σ H1 else D.nx σ H1
theorem uK {c : Expr} {body : List Stmt} {tc : TT} {tb : TS} (hp : PassesOwn (model X.prog X.w) X.A X.env X.xe) (hc : PT X c tc) (hb : PSs X body tb) : PS X (.While c body [] pos) (yu tc tb) := by
  intro pins s σ H D I h
  obtain ⟨W, ⟨m0, w0⟩, turn⟩ := h
  refine wpAny_While (codeAny_whileLoop (fun n s' => ∃ σ' H', Inv X pins σ' H' s' /\ W n σ' H') ?_ m0 ⟨σ, H, I, w0⟩)
  rintro n s1 ⟨σ1, H1, I1, w1⟩
  refine wpAny_passesOwn hp (thn (hc pins s1 σ1 H1 _ I1 (turn n σ1 H1 w1)) fun b s2 ⟨H2, I2, q2⟩ => ?_)
  cases b with
  | true =>
    obtain ⟨N, hN, q2⟩ := q2
    rw [if_pos rfl]
    refine wpAny_passesOwn hp (thn (hb pins s2 σ1 H2 _ I2 q2) fun f s3 q3 => ?_)
    cases f with
    | next =>
      obtain ⟨σ3, H3, I3, n3⟩ := q3
      obtain ⟨m', hm, w3⟩ := hN σ3 H3 n3
      exact ⟨m', hm, σ3, H3, I3, w3⟩
    | cont =>
      obtain ⟨σ3, H3, I3, n3⟩ := q3
      obtain ⟨m', hm, w3⟩ := hN σ3 H3 n3
      exact ⟨m', hm, σ3, H3, I3, w3⟩
    | brk => exact q3
    | ret v => exact q3
  | false =>
    rw [if_neg Bool.false_ne_true]
    exact wpAny_execs_nil ⟨σ1, H2, I2, q2⟩
end
structure It where
  go : Nat -> Hp -> Prop
  yld : Nat -> Hp -> V -> Hp -> Prop
  stop : Nat -> Hp -> Prop
noncomputable def oM (X : Cx) (pins : List (Addr × Obj)) (H : Hp) (b : Addr) : Prop :=
  H b = none /\ b ≠ X.env.locals /\ b ∉ X.fs /\ (b ∈ X.ex \/ X.aQ.heap.objs.size <= b) /\ (∀ x c, X.env.cells.lookup x = some c -> c ≠ b) /\ ∀ p ∈ X.pn ++ pins, p.1 ≠ b
theorem Inv.zB {X : Cx} {pins : List (Addr × Obj)} {σ : St} {H H' : Hp} {s : Shared} {b : Addr} (I : Inv X pins σ H s) (hb : s.heap.objs.size <= b) (hn : H' b = none) : oM X pins H' b := by
  refine ⟨hn, Nat.ne_of_gt (Nat.lt_of_lt_of_le I.lt hb), I.Af hb, .inr (Nat.le_trans I.sz hb), fun x c e z => ?_, fun p hp z => ?_⟩
  · obtain ⟨v, q⟩ := I.cell x c e
    exact absurd (Nat.lt_of_lt_of_le q.lt (by rw [z]; exact hb)) (Nat.lt_irrefl _)
  · exact absurd (Nat.lt_of_lt_of_le (Heap.lt_size (I.pin p hp).1) (by rw [z]; exact hb)) (Nat.lt_irrefl _)
structure Turn (P : Program) (w : World) (K : PySem.W.Frag) (tg : Expr) (J : It) (fp : List Addr) (it : Addr) (tn : Nat -> Heap -> Prop) : Prop where
  mem : it ∈ fp
  obj : ∀ i h, tn i h -> ∀ b ∈ fp, ∃ o, h.get? b = some o /\ ∀ v, o.data ≠ .cell v
  keep : ∀ i h h', tn i h -> (∀ b ∈ fp, ∀ o, h.get? b = some o -> h'.get? b = some o) -> tn i h'
  item : ∀ (X : Cx), X.prog = P -> X.w = w -> X.K = K -> X.calm = true -> ∀ (i : Nat) (pins : List (Addr × Obj)) (s : Shared) (σ : St) (H : Hp) (E : Value -> Shared -> Prop), Inv X pins σ H s -> (∀ b ∈ fp, oM X pins H b) -> tn i s.heap -> J.go i H →
    wpAny (model P w) X.A (pyNext (.ref it)) (fun r s1 => ∃ u, r = some u ∧
      wpAny (model P w) X.A (letOwnedTupleGo tg (.ref it) u) (fun _ s2 => ∃ x H', Inv X pins σ H' s2 /\ RelV x u /\ J.yld i H x H' /\ tn (i + 1) s2.heap /\ ∀ b ∈ fp, H' b = none) E s1) E s
  done : ∀ (X : Cx), X.prog = P -> X.w = w -> X.K = K -> X.calm = true -> ∀ (i : Nat) (pins : List (Addr × Obj)) (s : Shared) (σ : St) (H : Hp) (E : Value -> Shared -> Prop), Inv X pins σ H s -> (∀ b ∈ fp, oM X pins H b) -> tn i s.heap -> J.stop i H →
    wpAny (model P w) X.A (pyNext (.ref it)) (fun r s1 => r = none /\ Inv X pins σ H s1) E s
  self : ∀ (A : Around) (i : Nat) (s : Shared) (Q : Value -> Shared -> Prop) (E : Value -> Shared -> Prop), tn i s.heap -> Q (.ref it) s -> wpAny (model P w) A (pyIter (.ref it)) Q E s
noncomputable abbrev TI := St -> Hp -> (It -> Hp -> Prop) -> Prop
noncomputable def PIE (X : Cx) (pins : List (Addr × Obj)) (σ : St) (tg : Expr) (R : It -> Hp -> Prop) (itv : Value) (s2 : Shared) : Prop :=
  ∃ (it : Addr) (fp : List Addr) (tn : Nat -> Heap -> Prop) (J : It) (H' : Hp), itv = .ref it /\ Inv X pins σ H' s2 /\ Turn X.prog X.w X.K tg J fp it tn /\ tn 0 s2.heap /\ (∀ b ∈ fp, oM X pins H' b) /\ R J H'
noncomputable def PI (X : Cx) (tg iter : Expr) (wi : TI) : Prop :=
  ∀ (pins : List (Addr × Obj)) (s : Shared) (σ : St) (H : Hp) (R : It -> Hp -> Prop), Inv X pins σ H s -> wi σ H R →
    wpAny (model X.prog X.w) X.A (eval iter X.env) (fun v s1 => wpAny (model X.prog X.w) X.A (pyIter v) (PIE X pins σ tg R) X.xe s1) X.xe s
theorem vg {M : Model} {A : Around} {E : Value -> Shared -> Prop} {s : Shared} {tg : Expr} {it : Addr} {u : Value} {o : Obj} {n : String} {vs : Array Value} {Q : Unit -> Shared -> Prop} (ho : s.heap.get? it = some o) (hc : o.cls = .type n) (hd : o.data = .fields vs)
    (hn : ["enumerate", "zip", "dict_itemiterator", "dict_reverseitemiterator", "odict_iterator", "itertools.zip_longest", "itertools.pairwise"].contains n = false) (hQ : Q () s) : wpAny M A (letOwnedTupleGo tg (.ref it) u) Q E s := by
  unfold letOwnedTupleGo
  cases tg <;> first
    | exact wpAny_pure hQ
    | (cases u <;> first
        | exact wpAny_pure hQ
        | (refine wpAny_bind (wpAny_load ho ?_)
           rw [hc, hd]
           show wpAny M A (if (["enumerate", "zip", "dict_itemiterator", "dict_reverseitemiterator", "odict_iterator", "itertools.zip_longest", "itertools.pairwise"].contains n && vs[0]? == some (rawInt _)) = true then _ else _) Q E s
           rw [if_neg (by intro h; rw [hn, Bool.false_and] at h; cases h)]
           exact wpAny_pure hQ))
noncomputable def Itl (K : PySem.W.Frag) (a : Addr) : It :=
  ⟨fun i H => ∃ xs x, SqL K H a xs /\ xs[i]? = some x, fun i H x H' => H' = H /\ ∀ xs, SqL K H a xs -> xs[i]? = some x, fun i H => ∃ xs, SqL K H a xs /\ xs.length <= i⟩
noncomputable def Itt (K : PySem.W.Frag) (a : Addr) : It :=
  ⟨fun i H => ∃ xs x, SqT K H a xs /\ xs[i]? = some x, fun i H x H' => H' = H /\ ∀ xs, SqT K H a xs -> xs[i]? = some x, fun i H => ∃ xs, SqT K H a xs /\ xs.length <= i⟩
noncomputable def Itr (lo : Int) (n : Nat) : It := ⟨fun i _ => i < n, fun i H x H' => H' = H /\ x = .int (lo + i), fun i _ => n <= i⟩
theorem se {P : Program} {w : World} {K : PySem.W.Frag} {tg : Expr} (a it : Addr) : Turn P w K tg (Itl K a) [it] it (fun i h => h.IsListIter it a i) where
  mem := by simp
  obj := fun i h st b hb => by
    have e : b = it := by simpa using hb
    subst e
    obtain ⟨o, e, c, d⟩ := st
    exact ⟨o, e, fun v z => by rw [d] at z; cases z⟩
  keep := fun i h h' st k => st.at fun o e => k it (by simp) o e
  item := by
    intro X hP hw hK hc i pins s σ H E I hf st hg
    subst hP hw hK
    obtain ⟨xs, x, hq, hx⟩ := hg
    obtain ⟨its, rv, p, hz⟩ := I.list hq
    obtain ⟨u, hu, ru⟩ := rv.get hx
    obtain ⟨f0, f1, f2, f3, f4, f5⟩ := hf it (by simp)
    refine wpAny_pyNext_list_item st p.isList (x := u) (by simpa using hu) fun h' st' sb => ?_
    have I1 : Inv X pins σ H { s with heap := h' } := I.turned (t' := s.toks) (fun b o hb e => (sb.2 b hb).trans e) f0 f1 f3 f4 f5
    obtain ⟨o, e, c, d⟩ := id st'
    exact ⟨u, rfl, vg (s := { s with heap := h' }) e c d (by decide) ⟨x, H, I1, ru, ⟨rfl, fun ys hy => by rw [I.oD hy hq]; exact hx⟩, st', fun b hb => (hf b hb).1⟩⟩
  done := by
    intro X hP hw hK hc i pins s σ H E I hf st hg
    subst hP hw hK
    obtain ⟨xs, hq, hx⟩ := hg
    obtain ⟨its, rv, p, hz⟩ := I.list hq
    obtain ⟨f0, f1, f2, f3, f4, f5⟩ := hf it (by simp)
    have hl := rv.length
    exact wpAny_pyNext_list_end (I.ok.hd hc) st p.isList (by simp; omega) fun h' eb => ⟨rfl, I.turned (t' := s.toks) (fun b o hb e => eb b o hb e) f0 f1 f3 f4 f5⟩
  self := fun _ _ _ _ _ st h => wpAny_pyIter_listiter st h
theorem pY {P : Program} {w : World} {K : PySem.W.Frag} {tg : Expr} (a it : Addr) : Turn P w K tg (Itt K a) [it] it (fun i h => h.IsTupleIter it a i) where
  mem := by simp
  obj := fun i h st b hb => by
    have e : b = it := by simpa using hb
    subst e
    obtain ⟨o, e, c, d⟩ := st
    exact ⟨o, e, fun v z => by rw [d] at z; cases z⟩
  keep := fun i h h' st k => st.at fun o e => k it (by simp) o e
  item := by
    intro X hP hw hK hc i pins s σ H E I hf st hg
    subst hP hw hK
    obtain ⟨xs, x, hq, hx⟩ := hg
    obtain ⟨its, rv, p, hz⟩ := I.tuple hq
    obtain ⟨u, hu, ru⟩ := rv.get hx
    obtain ⟨f0, f1, f2, f3, f4, f5⟩ := hf it (by simp)
    refine wpAny_pyNext_tuple_item st (show s.heap.IsTuple a its.toArray from p) (x := u) (by simpa using hu) fun h' st' sb => ?_
    have I1 : Inv X pins σ H { s with heap := h' } := I.turned (t' := s.toks) (fun b o hb e => (sb.2 b hb).trans e) f0 f1 f3 f4 f5
    obtain ⟨o, e, c, d⟩ := id st'
    exact ⟨u, rfl, vg (s := { s with heap := h' }) e c d (by decide) ⟨x, H, I1, ru, ⟨rfl, fun ys hy => by rw [I.mE hy hq]; exact hx⟩, st', fun b hb => (hf b hb).1⟩⟩
  done := by
    intro X hP hw hK hc i pins s σ H E I hf st hg
    subst hP hw hK
    obtain ⟨xs, hq, hx⟩ := hg
    obtain ⟨its, rv, p, hz⟩ := I.tuple hq
    obtain ⟨f0, f1, f2, f3, f4, f5⟩ := hf it (by simp)
    have hl := rv.length
    exact wpAny_pyNext_tuple_end (I.ok.hd hc) st (show s.heap.IsTuple a its.toArray from p) (by simp; omega) fun h' eb => ⟨rfl, I.turned (t' := s.toks) (fun b o hb e => eb b o hb e) f0 f1 f3 f4 f5⟩
  self := fun _ _ _ _ _ st h => wpAny_pyIter_tupleiter st h
theorem qd {P : Program} {w : World} {K : PySem.W.Frag} {tg : Expr} (it : Addr) (lo : Int) (n : Nat) : Turn P w K tg (Itr lo n) [it] it (fun i h => IsRangeIter h it (lo + (i : Nat) * 1) ((n : Int) - (i : Nat)) 1) where
  mem := by simp
  obj := fun i h st b hb => by
    have e : b = it := by simpa using hb
    subst e
    exact ⟨_, st, fun v z => by
      have z' : Data.fields _ = Data.cell v := z
      cases z'⟩
  keep := fun i h h' st k => k it (by simp) _ st
  item := by
    intro X hP hw hK hc i pins s σ H E I hf st hg
    subst hP hw hK
    obtain ⟨f0, f1, f2, f3, f4, f5⟩ := hf it (by simp)
    have W := Walks.range (prog := X.prog) (w := X.w) (I.ok.hd hc) it lo 1 n
    refine W.item i s _ _ hg st fun v h' tk hv st' kk => ?_
    obtain ⟨t, rfl⟩ := hv
    have I1 : Inv X pins σ H { s with heap := h', toks := tk } := I.turned (fun b o hb e => kk b o (by simpa using hb) e) f0 f1 f3 f4 f5
    refine ⟨_, rfl, vg (s := { s with heap := h', toks := tk }) (n := "range_iterator") st' rfl rfl (by decide) ⟨.int (lo + i), H, I1, ⟨t, ?_⟩, ⟨rfl, rfl⟩, st', fun b hb => (hf b hb).1⟩⟩
    rw [Int.mul_one]
  done := by
    intro X hP hw hK hc i pins s σ H E I hf st hg
    subst hP hw hK
    obtain ⟨f0, f1, f2, f3, f4, f5⟩ := hf it (by simp)
    exact wpAny_pyNext_range_end (I.ok.hd hc) st (by have : n <= i := hg; omega) fun h' eb => ⟨rfl, I.turned (t' := s.toks) (fun b o hb e => eb b o hb e) f0 f1 f3 f4 f5⟩
  self := fun _ _ _ _ _ st h => wpAny_pyIter_rangeiter st h
section
variable {X : Cx} {tg : Expr}
theorem oZ {pins : List (Addr × Obj)} {σ : St} {H : Hp} {s : Shared} {R : It -> Hp -> Prop} {E : Value -> Shared -> Prop} {lo hi : Int} {t u v : Tok} {tk : Nat} (I : Inv X pins σ H s) (h1 : -(2 ^ 62) <= lo) (h2 : lo < 2 ^ 62) (h3 : -(2 ^ 62) <= hi) (h4 : hi < 2 ^ 62)
    (q : R (Itr lo (hi - lo).toNat) H) : wpAny (model X.prog X.w) X.A (pyIter (.ref s.heap.objs.size)) (PIE X pins σ tg R) E { s with heap := s.heap.push { cls := .type "range", data := .fields #[.int lo t, .int hi u, .int 1 v] }, toks := tk } := by
  refine wpAny_pyIter_range (IsRange.new ..) (small_one h1 h2 h3 h4) ?_
  have I1 : Inv X pins σ H { s with heap := s.heap.push { cls := .type "range", data := .fields #[.int lo t, .int hi u, .int 1 v] }, toks := tk } := I.kept fun b o e => Heap.get?_push_of_some _ e
  refine ⟨(s.heap.push { cls := .type "range", data := .fields #[.int lo t, .int hi u, .int 1 v] }).objs.size, [(s.heap.push { cls := .type "range", data := .fields #[.int lo t, .int hi u, .int 1 v] }).objs.size], _, _, H, rfl,
    I1.kept (t' := tk) fun b o e => Heap.get?_push_of_some _ e, qd _ lo (hi - lo).toNat, ?_, fun b hb => ?_, q⟩
  · have e1 : lo + ((0 : Nat) : Int) * 1 = lo := by simp
    have e2 : (((hi - lo).toNat : Nat) : Int) - ((0 : Nat) : Int) = Builtin.Range.rangeSize lo hi 1 := by rw [rangeSize_one]; split <;> omega
    show IsRangeIter _ _ (lo + ((0 : Nat) : Int) * 1) ((((hi - lo).toNat : Nat) : Int) - ((0 : Nat) : Int)) 1
    rw [e1, e2]
    exact Heap.get?_push_size _ rfl
  · have e : b = (s.heap.push { cls := .type "range", data := .fields #[.int lo t, .int hi u, .int 1 v] }).objs.size := by simpa using hb
    subst e
    exact I1.zB (Nat.le_refl _) (I1.hok.fresh (Nat.le_refl _))
noncomputable def zW (ta : TA) : TI := fun σ H R => ta σ H fun vs H1 => ∃ j : Int, vs = [.int j] /\ -(2 ^ 62) <= j /\ j < 2 ^ 62 /\ R (Itr 0 j.toNat) H1
noncomputable def AU (ta : TA) : TI := fun σ H R => ta σ H fun vs H1 => ∃ i j : Int, vs = [.int i, .int j] /\ (-(2 ^ 62) <= i /\ i < 2 ^ 62 /\ -(2 ^ 62) <= j /\ j < 2 ^ 62) /\ R (Itr i (j - i).toNat) H1
theorem rX {a : Expr} {ta : TA} {p pos : Pos} (hg : Gl X "range") (hm : X.mg "range" = none) (ha : PA X [a] ta) (hs : starEach [a] X.env = [(false, eval a X.env)] := by rfl) : PI X tg (.Call (.Name "range" p) [a] [] pos) (zW ta) := by
  intro pins s σ H R I h
  refine Call_ (kK I hg hm boot_range (PyProof.Rows.callWith_type1 (thn (ha pos pins s σ H _ I h) fun us s1 ⟨vs, H1, I1, r1, q1⟩ => ?_) hs rfl))
  obtain ⟨j, e, q1, q2, q⟩ := q1
  subst e
  cases r1 with
  | cons r rr =>
    cases rr
    obtain ⟨t, rfl⟩ := r
    exact call_range_1 (oZ I1 (by omega) (by omega) q1 q2 (by simpa using q))
theorem sy {a b : Expr} {ta : TA} {p pos : Pos} (hg : Gl X "range") (hm : X.mg "range" = none) (ha : PA X [a, b] ta) (hs : starEach [a, b] X.env = [(false, eval a X.env), (false, eval b X.env)] := by rfl) (hs2 : starEach [b] X.env = [(false, eval b X.env)] := by rfl) :
    PI X tg (.Call (.Name "range" p) [a, b] [] pos) (AU ta) := by
  intro pins s σ H R I h
  refine Call_ (kK I hg hm boot_range (PyProof.Rows.callWith_type1 (thn (ha pos pins s σ H _ I h) fun us s1 ⟨vs, H1, I1, r1, q1⟩ => ?_) (by rw [hs, hs2]) (by rw [hs2]; rfl)))
  obtain ⟨i, j, e, ⟨q1, q2, q3, q4⟩, q⟩ := q1
  subst e
  cases r1 with
  | cons r rr =>
    cases rr with
    | cons r' rr =>
      cases rr
      obtain ⟨t, rfl⟩ := r
      obtain ⟨t', rfl⟩ := r'
      exact call_range_2 (oZ I1 q1 q2 q3 q4 q)
noncomputable def BU (wi : TI) (g : TG) (tb : TS) : TS := fun D σ H => wi σ H fun J H1 => ∃ W : Nat -> Nat -> St -> Hp -> Prop, (∃ m, W 0 m σ H1) /\ ∀ i m σ H, W i m σ H →
  (J.stop i H /\ D.nx σ H) \/ (J.go i H /\ ∃ N : St -> Hp -> Prop, (∀ σ' H', N σ' H' -> ∃ m', m' < m /\ W (i + 1) m' σ' H') /\ ∀ x H', J.yld i H x H' -> g x σ H' fun σ2 H2 => tb { D with nx := N, ct := N, bk := D.nx } σ2 H2)
noncomputable def jr (fp : List Addr) (h : Heap) : List (Addr × Obj) := fp.filterMap fun b => (h.get? b).map fun o => (b, o)
theorem dH {fp : List Addr} {h : Heap} {b : Addr} {o : Obj} (hb : b ∈ fp) (e : h.get? b = some o) : (b, o) ∈ jr fp h := List.mem_filterMap.mpr ⟨b, hb, by rw [e]; rfl⟩
theorem sL {fp : List Addr} {h : Heap} {p : Addr × Obj} (hp : p ∈ jr fp h) : p.1 ∈ fp /\ h.get? p.1 = some p.2 := by
  obtain ⟨b, hb, e⟩ := List.mem_filterMap.mp hp
  cases q : h.get? b with
  | none => rw [q] at e; cases e
  | some o =>
    rw [q] at e
    have e' : (b, o) = p := Option.some.inj e
    subst e'
    exact ⟨hb, q⟩
theorem Inv.pinned {pins : List (Addr × Obj)} {σ : St} {H : Hp} {s : Shared} {fp : List Addr} (I : Inv X pins σ H s) (hf : ∀ b ∈ fp, oM X pins H b) (ho : ∀ b ∈ fp, ∃ o, s.heap.get? b = some o /\ ∀ v, o.data ≠ .cell v) : Inv X (pins ++ jr fp s.heap) σ H s :=
  I.kr fun p hp => (List.mem_append.mp hp).elim (fun z => I.pin p (List.mem_append_right _ z)) fun z => by
    obtain ⟨hb, e⟩ := sL z
    obtain ⟨f0, f1, f2, _⟩ := hf p.1 hb
    obtain ⟨o, e', d⟩ := ho p.1 hb
    rw [e] at e'; cases e'
    exact ⟨e, f0, f1, f2, d⟩
theorem Inv.gL {pins pl : List (Addr × Obj)} {σ : St} {H : Hp} {s : Shared} (I : Inv X (pins ++ pl) σ H s) : Inv X pins σ H s := I.kr fun p hp => I.pin p (List.mem_append_right _ (List.mem_append_left _ hp))
theorem zF {iter : Expr} {body : List Stmt} {wi : TI} {g : TG} {tb : TS} {pos : Pos} (hp : PassesOwn (model X.prog X.w) X.A X.env X.xe) (hc : X.calm = true) (hi : PI X tg iter wi) (hg : PG X tg g) (hb : PSs X body tb)
    (hs : ∀ x, foldedSetIterable iter X.env x = pure x := by intro _; rfl) : PS X (.For tg iter body [] pos) (BU wi g tb) := by
  intro pins s σ H D I h
  refine wpAny_For (thn (hi pins s σ H _ I h) fun v s1 h1 => thn h1 fun itv s2 h2 => ?_) hs
  obtain ⟨it, fp, tn, J, H2, e, I2, T, st2, f2, W, ⟨m0, w0⟩, turn⟩ := h2
  subst e
  -- what stays true of the iterator's objects through the loop
  have stat : ∀ {H' : Hp}, (∀ b ∈ fp, H' b = none) -> ∀ b ∈ fp, oM X pins H' b := fun hn b hb => ⟨hn b hb, (f2 b hb).2⟩
  refine codeAny_forLoop_any (fun n s' => ∃ i σ' H', Inv X pins σ' H' s' /\ tn i s'.heap /\ (∀ b ∈ fp, H' b = none) /\ W i n σ' H') ?_ m0 ⟨0, σ, H2, I2, st2, fun b hb => (f2 b hb).1, w0⟩
  rintro n s3 ⟨i, σ3, H3, I3, st3, fr3, w3⟩
  rcases turn i n σ3 H3 w3 with ⟨stop, qn⟩ | ⟨go, N, hN, step⟩
  · refine wpAny_passesOwn hp (thn (T.done X rfl rfl rfl hc i pins s3 σ3 H3 X.xe I3 (stat fr3) st3 stop) fun r s4 ⟨hr, I4⟩ => ?_)
    subst hr
    exact wpAny_execs_nil ⟨σ3, H3, I4, qn⟩
  · refine wpAny_passesOwn hp (thn (T.item X rfl rfl rfl hc i pins s3 σ3 H3 X.xe I3 (stat fr3) st3 go) fun r s4 ⟨u, hr, h4⟩ => ?_)
    subst hr
    refine wpAny_passesOwn hp (thn h4 fun _ s5 ⟨x, H5, I5, r5, y5, st5, fr5⟩ => ?_)
    have I5' := I5.pinned (stat fr5) (T.obj _ _ st5)
    refine wpAny_passesOwn hp (thn (hg _ s5 σ3 H5 x u _ I5' r5 (step x H5 y5)) fun _ s6 ⟨σ6, H6, I6, q6⟩ => ?_)
    refine wpAny_passesOwn hp (thn (hb _ s6 σ6 H6 _ I6 q6) fun f s7 q7 => ?_)
    have again : ∀ {σ7 : St} {H7 : Hp}, Inv X (pins ++ jr fp s5.heap) σ7 H7 s7 -> N σ7 H7 -> ∃ m, m < n /\ ∃ i σ' H', Inv X pins σ' H' s7 /\ tn i s7.heap /\ (∀ b ∈ fp, H' b = none) /\ W i m σ' H' := fun {σ7 H7} I7 n7 => by
      obtain ⟨m', hm, w7⟩ := hN σ7 H7 n7
      refine ⟨m', hm, i + 1, σ7, H7, I7.gL, T.keep _ _ _ st5 fun b hb o e => (I7.pin (b, o) (List.mem_append_right _ (List.mem_append_right _ (dH hb e)))).1, fun b hb => ?_, w7⟩
      obtain ⟨o, e, d⟩ := T.obj _ _ st5 b hb
      exact (I7.pin (b, o) (List.mem_append_right _ (List.mem_append_right _ (dH hb e)))).2.1
    cases f with
    | next => obtain ⟨σ7, H7, I7, n7⟩ := q7; exact again I7 n7
    | cont => obtain ⟨σ7, H7, I7, n7⟩ := q7; exact again I7 n7
    | brk => obtain ⟨σ7, H7, I7, q7⟩ := q7; exact ⟨σ7, H7, I7.gL, q7⟩
    | ret v => obtain ⟨x7, σ7, H7, I7, r7, q7⟩ := q7; exact ⟨x7, σ7, H7, I7.gL, r7, q7⟩
end
noncomputable abbrev R2 := V -> V -> Hp -> VK -> Prop
noncomputable def OpR (X : Cx) (f : Value -> Value -> Sem Value) (r : R2) : Prop :=
  ∀ (pins : List (Addr × Obj)) (s : Shared) (σ : St) (H : Hp) (x y : V) (v u : Value) (Q : VK), Inv X pins σ H s -> RelV x v -> RelV y u -> r x y H Q →
    wpAny (model X.prog X.w) X.A (f v u) (EP X pins σ Q) X.xe s
noncomputable def bL (X : Cx) (f : Value) (r : List V -> Hp -> VK -> Prop) : Prop :=
  ∀ (pins : List (Addr × Obj)) (s : Shared) (σ : St) (H : Hp) (xs : List V) (us : List Value) (Q : VK), Inv X pins σ H s -> Vals xs us -> r xs H Q →
    wpAny (model X.prog X.w) X.A (call f us) (EP X pins σ Q) X.xe s
noncomputable def CD (X : Cx) (r : V -> Hp -> (Bool -> Hp -> Prop) -> Prop) : Prop :=
  ∀ (pins : List (Addr × Obj)) (s : Shared) (σ : St) (H : Hp) (x : V) (v : Value) (Q : Bool -> Hp -> Prop), Inv X pins σ H s -> RelV x v -> r x H Q →
    wpAny (model X.prog X.w) X.A (truthy v) (TP X pins σ Q) X.xe s
noncomputable def tOp (r : R2) (ta tb : TE) : TE := fun σ H Q => ta σ H fun x H1 => tb σ H1 fun y H2 => r x y H2 Q
noncomputable def rI (C : Int -> Int -> Prop) (g : Int -> Int -> V) : R2 := fun x y H Q => ∃ i j, x = .int i /\ y = .int j /\ C i j /\ Q (g i j) H
noncomputable def rI0 (g : Int -> Int -> V) : R2 := fun x y H Q => ∃ i j, x = .int i /\ y = .int j /\ Q (g i j) H
section
variable {X : Cx} {a b c : Expr} {ta tb tc : TE} {pos : Pos}
theorem zt (ha : PE X a ta) (hb : PE X b tb) {pins : List (Addr × Obj)} {s : Shared} {σ : St} {H : Hp} {R : V -> V -> Hp -> Prop} (I : Inv X pins σ H s)
    (h : ta σ H fun x H1 => tb σ H1 fun y H2 => R x y H2) {Q : Value -> Shared -> Prop} {f : Value -> Value -> Sem Value}
    (hf : ∀ v u s2 x y H2, Inv X pins σ H2 s2 -> RelV x v -> RelV y u -> R x y H2 -> wpAny (model X.prog X.w) X.A (f v u) Q X.xe s2) :
    wpAny (model X.prog X.w) X.A (eval a X.env) (fun v s₁ => wpAny (model X.prog X.w) X.A (eval b X.env) (fun u s₂ => wpAny (model X.prog X.w) X.A (f v u) Q X.xe s₂) X.xe s₁) X.xe s := by
  refine thn (ha pins s σ H _ I h) fun v s1 ⟨x, H1, I1, r1, q1⟩ => ?_
  refine thn (hb pins s1 σ H1 _ I1 q1) fun u s2 ⟨y, H2, I2, r2, q2⟩ => ?_
  exact hf v u s2 x y H2 I2 r1 r2 q2
theorem A_ {op : Operator} {r : R2} (ho : OpR X (binaryOp op) r) (ha : PE X a ta) (hb : PE X b tb) : PE X (.BinOp a op b pos) (tOp r ta tb) := by
  intro pins s σ H Q I h
  exact wpAny_BinOp (zt ha hb I h fun v u s2 x y H2 I2 rx ry q => ho pins s2 σ H2 x y v u Q I2 rx ry q)
theorem opI {f : Value -> Value -> Sem Value} {C : Int -> Int -> Prop} {g : Int -> Int -> Int}
    (rule : ∀ (i j : Int) (t u : Tok) (s : Shared) (Q : Value -> Shared -> Prop) (E : Value -> Shared -> Prop), C i j -> Q (.int (g i j) s.toks) { s with toks := s.toks + 1 } -> wpAny (model X.prog X.w) X.A (f (.int i t) (.int j u)) Q E s) :
    OpR X f (rI C fun i j => .int (g i j)) := by
  intro pins s σ H x y v u Q I rx ry h
  obtain ⟨i, j, rfl, rfl, hc, q⟩ := h
  obtain ⟨t, rfl⟩ := rx
  obtain ⟨t', rfl⟩ := ry
  exact rule i j t t' s _ _ hc ⟨.int (g i j), H, I.tok _, ⟨_, rfl⟩, q⟩
theorem A6 {f : Value -> Value -> Sem Value} {g : Int -> Int -> Int}
    (rule : ∀ (i j : Int) (t u : Tok) (s : Shared) (Q : Value -> Shared -> Prop) (E : Value -> Shared -> Prop), Q (.int (g i j) s.toks) { s with toks := s.toks + 1 } -> wpAny (model X.prog X.w) X.A (f (.int i t) (.int j u)) Q E s) :
    OpR X f (rI0 fun i j => .int (g i j)) := by
  intro pins s σ H x y v u Q I rx ry h
  obtain ⟨i, j, rfl, rfl, q⟩ := h
  obtain ⟨t, rfl⟩ := rx
  obtain ⟨t', rfl⟩ := ry
  exact rule i j t t' s _ _ ⟨.int (g i j), H, I.tok _, ⟨_, rfl⟩, q⟩
theorem wM {f : Value -> Value -> Sem Value} {g : Int -> Int -> Bool}
    (rule : ∀ (i j : Int) (t u : Tok) (s : Shared) (Q : Value -> Shared -> Prop) (E : Value -> Shared -> Prop), Q (.bool (g i j)) s -> wpAny (model X.prog X.w) X.A (f (.int i t) (.int j u)) Q E s) :
    OpR X f (rI0 fun i j => .bl (g i j)) := by
  intro pins s σ H x y v u Q I rx ry h
  obtain ⟨i, j, rfl, rfl, q⟩ := h
  obtain ⟨t, rfl⟩ := rx
  obtain ⟨t', rfl⟩ := ry
  exact rule i j t t' s _ _ ⟨.bl (g i j), H, I, rfl, q⟩
theorem yg : OpR X (binaryOp .Add) (rI0 fun i j => .int (i + j)) := A6 fun _ _ _ _ _ _ _ q => add_int q
theorem cT : OpR X (binaryOp .Sub) (rI0 fun i j => .int (i - j)) := A6 fun _ _ _ _ _ _ _ q => sub_int q
theorem k8 : OpR X (binaryOp .Mod) (rI (fun _ j => 0 < j) fun i j => .int (i % j)) := opI fun i j _ _ _ _ _ hc q => by
  have h1 : (0 : Int) < j := hc
  exact mod_int' (by omega) (by rw [Int.fmod_eq_emod_of_nonneg i (by omega)]; exact q)
end
section
variable {X : Cx} {a b c : Expr} {ta tb tc : TE} {pos : Pos}
theorem xB : OpR X (compareOp .Lt) (rI0 fun i j => .bl (decide (i < j))) := wM fun _ _ _ _ _ _ _ q => lt_int q
theorem oo : OpR X (compareOp .LtE) (rI0 fun i j => .bl (decide (i <= j))) := wM fun _ _ _ _ _ _ _ q => le_int q
theorem ud : OpR X (compareOp .Gt) (rI0 fun i j => .bl (decide (j < i))) := wM fun _ _ _ _ _ _ _ q => gt_int q
theorem xG : OpR X (compareOp .GtE) (rI0 fun i j => .bl (decide (j <= i))) := wM fun _ _ _ _ _ _ _ q => ge_int q
theorem bK (b : Expr) {op : CmpOp} (h : op ≠ .In := by decide) (h2 : op ≠ .NotIn := by decide) : behindInMarks op b = false := by
  have e1 : (op == CmpOp.In) = false := by cases op <;> first | rfl | exact absurd rfl h
  have e2 : (op == CmpOp.NotIn) = false := by cases op <;> first | rfl | exact absurd rfl h2
  cases b <;> simp [behindInMarks, e1, e2]
theorem vS {op : CmpOp} {r : R2} (ho : OpR X (compareOp op) r) (ha : PE X a ta) (hb : PE X b tb) (hm : behindInMarks op b = false) : PE X (.Compare a [op] [b] pos) (tOp r ta tb) := by
  intro pins s σ H Q I h
  exact wpAny_Compare1 (zt ha hb I h fun v u s2 x y H2 I2 rx ry q => ho pins s2 σ H2 x y v u Q I2 rx ry q) hm
noncomputable def xk (t : TE) : TT := fun σ H Q => t σ H fun x H' => ∃ k, x = .bl k /\ Q k H'
theorem wQ {op : CmpOp} {r : R2} (ho : OpR X (compareOp op) r) (ha : PE X a ta) (hb : PE X b tb) (hm : behindInMarks op b = false) : PT X (.Compare a [op] [b] pos) (xk (tOp r ta tb)) := by
  intro pins s σ H Q I h
  refine wpAny_isTrue_Compare1 (thn (ha pins s σ H _ I h) fun v s1 ⟨x, H1, I1, r1, q1⟩ => thn (hb pins s1 σ H1 _ I1 q1) fun u s2 ⟨y, H2, I2, r2, q2⟩ =>
    thn (ho pins s2 σ H2 x y v u _ I2 r1 r2 q2) fun c s3 ⟨z, H3, I3, r3, k, e, q3⟩ => ?_) hm
  subst e
  cases r3
  exact wpAny_truthy_bool ⟨H3, I3, q3⟩
noncomputable def sU (r r' : R2) (ta tb tc : TE) : TE := fun σ H Q => ta σ H fun x H1 => tb σ H1 fun y H2 => r x y H2 fun z H3 => ∃ k, z = .bl k ∧
  (if k = true then tc σ H3 fun w' H4 => r' y w' H4 Q else Q (.bl false) H3)
theorem uY {op op' : CmpOp} {r r' : R2} (ho : OpR X (compareOp op) r) (ho' : OpR X (compareOp op') r') (ha : PE X a ta) (hb : PE X b tb) (hc : PE X c tc)
    (hm : lastMarks [op, op'] [b, c] = false := by with_unfolding_all rfl) : PE X (.Compare a [op, op'] [b, c] pos) (sU r r' ta tb tc) := by
  intro pins s σ H Q I h
  refine Compare_chain (thn (ha pins s σ H _ I h) fun v s1 ⟨x, H1, I1, r1, q1⟩ => chain_link (thn (hb pins s1 σ H1 _ I1 q1) fun u s2 ⟨y, H2, I2, r2, q2⟩ =>
    thn (ho pins s2 σ H2 x y v u _ I2 r1 r2 q2) fun d s3 ⟨z, H3, I3, r3, k, e, q3⟩ => ?_)) hm
  subst e
  cases r3
  refine wpAny_truthy_bool ?_
  cases k with
  | false => exact ite_ff ⟨.bl false, H3, I3, rfl, q3⟩
  | true => exact ite_tt (chain_last (thn (hc pins s3 σ H3 _ I3 q3) fun w' s4 ⟨z', H4, I4, r4, q4⟩ => ho' pins s4 σ H4 y z' u w' Q I4 r2 r4 q4))
noncomputable def vD (K : PySem.W.Frag) (x : V) (H : Hp) (k : Bool) : Prop :=
  match x with
  | .non => k = false
  | .bl b => k = b
  | .int i => k = (i != 0)
  | .str y => y.length <= sizeLine /\ k = ((y.length : Int) != 0)
  | .byt y => y.size <= sizeLine /\ k = ((y.size : Int) != 0)
  | .ref p => (∃ xs, SqL K H p xs /\ k = !xs.isEmpty) \/ (∃ xs, SqT K H p xs /\ k = !xs.isEmpty) \/ ∃ kvs, H p = some (.dK kvs) /\ k = !kvs.isEmpty
  | _ => False
theorem pZ {κ : Type} {kvs : List (κ × V)} {vs : List (κ × Value)} (r : KV kvs vs) : (!vs.isEmpty) = !kvs.isEmpty := by
  cases r <;> rfl
theorem kJ {xs : List V} {its : List Value} (r : Vals xs its) : (!its.toArray.isEmpty) = !xs.isEmpty := by
  cases r <;> simp
theorem iD : (sizeLine : Nat) < 2 ^ 63 := by rw [sizeLine_eq]; decide
theorem yi : CD X (fun x H Q => ∃ k, vD X.K x H k /\ Q k H) := by
  intro pins s σ H x v Q I rx h
  obtain ⟨k, e, q⟩ := h
  have hl := iD
  have hs : sizeLine = 16777216 := sizeLine_eq
  cases x with
  | non =>
    cases rx
    have e' : k = false := e
    subst e'
    exact truthy_none ⟨H, I, q⟩
  | bl b =>
    cases rx
    have e' : k = b := e
    subst e'
    exact wpAny_truthy_bool ⟨H, I, q⟩
  | int i =>
    obtain ⟨t, rfl⟩ := rx
    have e' : k = (i != 0) := e
    subst e'
    exact PySem.P.truthy_int ⟨H, I, q⟩
  | str y =>
    obtain ⟨t, rfl⟩ := rx
    obtain ⟨hy, e'⟩ : y.length <= sizeLine /\ k = ((y.length : Int) != 0) := e
    subst e'
    exact PySem.P.truthy_str (by omega) ⟨H, I.tok _, q⟩
  | byt y =>
    obtain ⟨t, rfl⟩ := rx
    obtain ⟨hy, e'⟩ : y.size <= sizeLine /\ k = ((y.size : Int) != 0) := e
    subst e'
    exact PySem.W.truthy_bytes (by omega) ⟨H, I.tok _, q⟩
  | ref p =>
    cases rx
    have e' : (∃ xs, SqL X.K H p xs /\ k = !xs.isEmpty) \/ (∃ xs, SqT X.K H p xs /\ k = !xs.isEmpty) \/ ∃ kvs, H p = some (.dK kvs) /\ k = !kvs.isEmpty := e
    rcases e' with ⟨xs, hx, e'⟩ | ⟨xs, hx, e'⟩ | ⟨kvs, hx, e'⟩
    · subst e'
      obtain ⟨its, r, pl, hz⟩ := I.list hx
      have hlen := r.length
      exact wpAny_truthy_list pl.isList (by simp only [List.size_toArray]; omega) ⟨H, I.tok _, by rw [kJ r]; exact q⟩
    · subst e'
      obtain ⟨its, r, pl, hz⟩ := I.tuple hx
      have hlen := r.length
      exact truthy_tuple pl (by simp only [List.size_toArray]; omega) ⟨H, I.tok _, by rw [kJ r]; exact q⟩
    · subst e'
      obtain ⟨hz, hS, vs, r, m⟩ : kvs.length <= sizeLine /\ (p == sysModules) = false /\ ∃ vs, KV kvs vs /\ s.heap.DictOf (b8 X.prog X.w) p vs := I.hok p _ hx
      have hlen : kvs.length = vs.length := Paired.length r
      exact wpAny_truthy_dict hS m (by omega) ⟨H, I.tok _, by rw [pZ r]; exact q⟩
  | _ => exact (show False from e).elim
theorem ue (ha : PE X a ta) (he : ∀ whole, isTrue a X.env whole = (do let v ← whole; standAt a.pos; holding [v] (truthy v))) :
    PT X a (fun σ H Q => ta σ H fun x H' => ∃ k, vD X.K x H' k /\ Q k H') := by
  intro pins s σ H Q I h
  exact isTrue_plain (thn (ha pins s σ H _ I h) fun v s1 ⟨x, H1, I1, r1, q1⟩ => yi pins s1 σ H1 x v Q I1 r1 q1) (he _)
theorem qu : OpR X (binaryOp .Add) (fun x y H Q => ∃ i j, x = .str i /\ y = .str j /\ i.length + j.length <= sizeLine /\ Q (.str (i ++ j)) H) := by
  intro pins s σ H x y v u Q I rx ry h
  obtain ⟨i, j, rfl, rfl, hz, q⟩ := h
  obtain ⟨t, rfl⟩ := rx
  obtain ⟨t', rfl⟩ := ry
  exact add_str (fun t' tk => ⟨.str (i ++ j), H, I.tok _, ⟨_, rfl⟩, q⟩) hz
theorem vals1 {x : V} {us : List Value} (r : Vals [x] us) : ∃ u, us = [u] /\ RelV x u := by
  cases r with
  | cons r1 r2 => cases r2; exact ⟨_, rfl, r1⟩
theorem vals2 {x y : V} {us : List Value} (r : Vals [x, y] us) : ∃ u w', us = [u, w'] /\ RelV x u /\ RelV y w' := by
  cases r with
  | cons r1 r2 =>
    cases r2 with
    | cons r3 r4 => cases r4; exact ⟨_, _, rfl, r1, r3⟩
theorem rZ (hc : X.calm = true) : bL X (.builtin "max") (fun xs H Q => ∃ i j, xs = [.int i, .int j] /\ Q (.int (if j > i then j else i)) H) := by
  intro pins s σ H xs us Q I r h
  obtain ⟨i, j, rfl, q⟩ := h
  obtain ⟨u, w', rfl, ⟨t, rfl⟩, ⟨t', rfl⟩⟩ := vals2 r
  refine max_two_ints (I.ok.hd hc) fun h' tk k => ⟨_, H, I.kept k, ?_, q⟩
  by_cases hj : j > i
  · rw [if_pos hj, if_pos hj]; exact ⟨_, rfl⟩
  · rw [if_neg hj, if_neg hj]; exact ⟨_, rfl⟩
theorem gZ : bL X (.type "int") (fun xs H Q => (∃ i, xs = [.int i] /\ Q (.int i) H) \/ ∃ k, xs = [.bl k] /\ Q (.int (if k then 1 else 0)) H) := by
  intro pins s σ H xs us Q I r h
  rcases h with ⟨i, rfl, q⟩ | ⟨k, rfl, q⟩
  · obtain ⟨u, rfl, t, rfl⟩ := vals1 r
    exact call_int_int ⟨.int i, H, I, ⟨_, rfl⟩, q⟩
  · obtain ⟨u, rfl, r1⟩ := vals1 r
    cases r1
    exact call_int_bool ⟨.int (if k then 1 else 0), H, I.tok _, ⟨_, rfl⟩, q⟩
end
structure yo (h : Heap) (x dx C : Addr) (mA : Str -> Option Value) : Prop where
  obj : h.get? x = some (PySem.W.instObj C dx)
  ns : h.Ns1 dx mA
  ne : dx ≠ x
theorem sd {h : Heap} {dx : Addr} {mA : Str -> Option Value} (n : h.Ns1 dx mA) : ∃ od, h.get? dx = some od /\ ∀ name, PySem.W.lookIn name od = some (mA name) := by
  obtain ⟨o, es, ep, ho, hd, hk, _, hm⟩ := n
  refine ⟨o, ho, fun name => ?_⟩
  have e := hm name
  unfold nsFind findBy at e
  rw [<- Array.find?_toList] at e
  unfold PySem.W.lookIn
  rw [hd]
  dsimp only
  split
  · rename_i y q
    rw [q] at e
    exact congrArg some e
  · rename_i q
    rw [q] at e
    have a : es.toList.any (·.refKey) = false := by
      rw [List.any_eq_false]
      intro y hy
      obtain ⟨z, t, hkey⟩ := hk y (Array.mem_toList_iff.mp hy)
      simp [DictEntry.refKey, hkey]
    have a' : ¬ es.toList.any (·.refKey) = true := by rw [a]; exact Bool.false_ne_true
    rw [if_neg a']
    exact congrArg some e
theorem yo.look {h : Heap} {x dx C : Addr} {mA : Str -> Option Value} (I : yo h x dx C mA) : ∃ od, PySem.W.InstAt h x (PySem.W.instObj C dx) C (some od) /\ ∀ name, PySem.W.lookIn name od = some (mA name) :=
  let ⟨od, ho, hl⟩ := sd I.ns
  ⟨od, ⟨I.obj, rfl, rfl, ho⟩, hl⟩
theorem jI.some_of {v : V} {o : Option Value} (r : jI (some v) o) : ∃ u, o = some u /\ RelV v u := by
  cases o with
  | none => exact (show False from r).elim
  | some u => exact ⟨u, rfl, r⟩
section
variable {P : Program} {w : World} {H H' : Hp} {h h' : Heap} {a C dx : Addr} {fs fs' : List (Str × V)}
theorem wx (hok : HOk P w H h) (e : H a = some (.ins C dx fs)) : ∃ mA, yo h a dx C mA /\ (∀ f, jI (fs.lookup f) (mA f)) /\ PySem.Within mA (fs.map (·.1)) /\ fs.length <= 1000 /\ H dx = some (.own a) := by
  obtain ⟨d, z, ne, ob, mA, n, r, q⟩ := (show bO P w H h a (.ins C dx fs) from hok a _ e)
  exact ⟨mA, ⟨ob, n, ne⟩, r, q, z, d⟩
end
structure Cls (K : PySem.W.Frag) (C : Addr) : Prop where
  pg : PySem.W.plainGet K C Str.empty = true
  hd : PySem.W.hasDictIn K C = true
  po : PySem.W.plainOver K C = true
  sa : PySem.W.findIn K (.ref C) "__setattr__" = some (some (.builtin "object.__setattr__"))
theorem Cls.get {K : PySem.W.Frag} {C : Addr} (c : Cls K C) (f : Str) : PySem.W.plainGet K C f = true := c.pg
section
variable {X : Cx} {pins : List (Addr × Obj)} {σ : St} {H : Hp} {s : Shared} {A : Around} {E : Value -> Shared -> Prop} {Q : Value -> Shared -> Prop} {c : Value} {b : Bool}
inductive iL (K : PySem.W.Frag) (H : Hp) : V -> Value -> Prop where
  | non : iL K H .non (.type "NoneType")
  | bl (x : Bool) : iL K H (.bl x) (.type "bool")
  | int (i : Int) : iL K H (.int i) (.type "int")
  | str (x : Str) : iL K H (.str x) (.type "str")
  | flt (x : UInt64) : iL K H (.flt x) (.type "float")
  | lst {a : Addr} {xs : List V} (e : H a = some (.lst xs)) : iL K H (.ref a) (.type "list")
  | frz {a : Addr} {o : Obj} {xs : List V} (e : H a = some (.frz o (.lst xs))) : iL K H (.ref a) (.type "list")
  | tup {a : Addr} {xs : List V} (e : H a = some (.tup xs)) : iL K H (.ref a) (.type "tuple")
  | eO {a : Addr} {o : Obj} {kvs : List (Key × V)} (e : H a = some (.frz o (.dK kvs))) : iL K H (.ref a) (.type "dict")
  | dK {a : Addr} {kvs : List (Key × V)} (e : H a = some (.dK kvs)) : iL K H (.ref a) (.type "dict")
  | dT {a : Addr} {kvs : List (List Key × V)} (e : H a = some (.dT kvs)) : iL K H (.ref a) (.type "dict")
  | ins {a C dx : Addr} {fs : List (Str × V)} (e : H a = some (.ins C dx fs)) (cl : Cls K C) (ha : PySem.W.findIn K (.ref C) "__class__" = some (some (.builtin "object.__class__")))
      (hn : PySem.W.specialIn K (.builtin "object.__class__") "__get__" = some (some (.builtin "getset_descriptor.__get__"))) (htk : PySem.W.takesIn K (.builtin "object.__class__") = some true)
      (hm : PySem.W.mroIn K C (.type "object") = some true) : iL K H (.ref a) (.ref C)
theorem rL {x : V} {u t : Value} (I : Inv X pins σ H s) (rx : RelV x u) (ty : iL X.K H x t) (e : PySem.W.kitOne X.K t c = some b) (h : ∀ tk, Q (.bool b) { s with toks := tk }) :
    wpAny (model X.prog X.w) A (call (.builtin "isinstance") [u, c]) Q E s := by
  cases ty with
  | non => cases (show u = Value.none from rx); exact PySem.W.kia_one PySem.W.kitx_none I.kIn True.intro e (fun z => nomatch z) h
  | bl y => cases (show u = Value.bool y from rx); exact PySem.W.kia_one PySem.W.kitx_bool I.kIn True.intro e (fun z => nomatch z) h
  | int i => obtain ⟨t, q⟩ := (show ∃ t, u = Value.int i t from rx); cases q; exact PySem.W.kia_one PySem.W.kitx_int I.kIn True.intro e (fun z => nomatch z) h
  | str y => obtain ⟨t, q⟩ := (show ∃ t, u = Value.str y t from rx); cases q; exact PySem.W.kia_one PySem.W.kitx_str I.kIn True.intro e (fun z => nomatch z) h
  | flt y => obtain ⟨t, q⟩ := (show ∃ t, u = Value.float y t from rx); cases q; exact PySem.W.kia_one PySem.W.kitx_float I.kIn True.intro e (fun z => nomatch z) h
  | @lst a xs ea =>
    cases (show u = Value.ref a from rx)
    obtain ⟨_, _, n, _, h1⟩ := (show bO X.prog X.w H s.heap a (.lst xs) from I.hok a _ ea)
    exact PySem.W.kia_one PySem.W.kitx_list I.kIn ⟨_, h1, rfl⟩ e (fun z => nomatch z) h
  | @frz a ob xs ea =>
    cases (show u = Value.ref a from rx)
    obtain ⟨_, _, _, n, _, h1⟩ := (show bO X.prog X.w H s.heap a (.frz ob (.lst xs)) from I.hok a _ ea)
    exact PySem.W.kia_one PySem.W.kitx_list I.kIn ⟨_, h1, rfl⟩ e (fun z => nomatch z) h
  | @tup a xs ea =>
    cases (show u = Value.ref a from rx)
    obtain ⟨_, _, _, p⟩ := (show bO X.prog X.w H s.heap a (.tup xs) from I.hok a _ ea)
    obtain ⟨o, h1, ⟨h2, _⟩, _⟩ := p
    exact PySem.W.kia_one PySem.W.kitx_tuple I.kIn ⟨o, h1, h2⟩ e (fun z => nomatch z) h
  | @eO a ob kvs ea =>
    cases (show u = Value.ref a from rx)
    obtain ⟨_, _, _, vs, _, p⟩ := (show bO X.prog X.w H s.heap a (.frz ob (.dK kvs)) from I.hok a _ ea)
    obtain ⟨o, es, ep, h1, h2, _⟩ := p
    exact PySem.W.kia_one PySem.W.kitx_dict I.kIn ⟨o, h1, h2.1⟩ e (fun z => nomatch z) h
  | @dK a kvs ea =>
    cases (show u = Value.ref a from rx)
    obtain ⟨_, _, vs, _, p⟩ := (show bO X.prog X.w H s.heap a (.dK kvs) from I.hok a _ ea)
    obtain ⟨o, es, ep, h1, h2, _⟩ := p
    exact PySem.W.kia_one PySem.W.kitx_dict I.kIn ⟨o, h1, h2.1⟩ e (fun z => nomatch z) h
  | @dT a kvs ea =>
    cases (show u = Value.ref a from rx)
    obtain ⟨_, _, xs, _, o, es, ep, h1, h2, _⟩ := (show bO X.prog X.w H s.heap a (.dT kvs) from I.hok a _ ea)
    exact PySem.W.kia_one PySem.W.kitx_dict I.kIn ⟨o, h1, h2.1⟩ e (fun z => nomatch z) h
  | @ins a C dx fs ea cl ha hn htk hm =>
    cases (show u = Value.ref a from rx)
    obtain ⟨mA, O, _⟩ := wx I.hok ea
    obtain ⟨od, J, _⟩ := O.look
    exact PySem.W.kia_one (PySem.W.kitx_own (cl.get _) cl.hd ha hn htk hm) I.kIn J e (fun z => nomatch z) h
end
structure fG (k : Nat) (A : Around) : Prop where
  hd : A.handled = none
  dp : A.depth + 3 * k + 5 < recursionLimit
  un : A.units + 16 * k + 200 < cLine
  gd : A.guards = some []
theorem fG.mono {j k : Nat} {A : Around} (r : fG k A) (h : j <= k) : fG j A := ⟨r.hd, by have := r.dp; omega, by have := r.un; omega, r.gd⟩
theorem fG.deeper {k : Nat} {A : Around} (r : fG (k + 1) A) (env : Env) : fG k (A.deeper env) :=
  ⟨r.hd, by have := r.dp; show A.depth + 1 + 3 * k + 5 < _; omega, by have := r.un; show A.units + 3 + 16 * k + 200 < _; omega, r.gd⟩
theorem fG.depth {k : Nat} {A : Around} (r : fG k A) : A.depth < recursionLimit := by have := r.dp; omega
theorem fG.units {k : Nat} {A : Around} (r : fG k A) : A.units + 64 < cLine := by have := r.un; omega
noncomputable def Ca : TA := fun _ H Q => Q [] H
noncomputable def Aq (ta : TE) (tr : TA) : TA := fun σ H Q => ta σ H fun x H1 => tr σ H1 fun xs H2 => Q (x :: xs) H2
section
variable {X : Cx} {e : Expr} {es : List Expr} {te : TE} {t : TA} {pos : Pos}
theorem p_ : PA X [] Ca := fun _ _ _ _ H Q I h => Calls.spliced_nil ⟨[], H, I, .nil, h⟩
theorem kh (ha : PE X e te) (hr : PA X es t) (hs : starEach (e :: es) X.env = (false, eval e X.env) :: starEach es X.env := by rfl) : PA X (e :: es) (Aq te t) := by
  intro pos pins s σ H Q I h
  rw [hs]
  show wpAny _ _ (spliced ((false, eval e X.env) :: backTo pos (starEach es X.env))) _ _ s
  refine Calls.spliced_cons (thn (ha pins s σ H _ I h) fun u s1 ⟨x, H1, I1, r1, q1⟩ => ?_)
  exact thn (hr pos pins s1 σ H1 _ I1 q1) fun us s2 ⟨xs, H2, I2, r2, q2⟩ => ⟨x :: xs, H2, I2, .cons r1 r2, q2⟩
noncomputable def B2 (t : TA) : TE := fun σ H Q => t σ H fun xs H1 => xs.length <= sizeLine /\ ∀ p, H1 p = none -> Q (.ref p) (upd H1 p (.tup xs))
noncomputable def Cb (t : TA) : TE := fun σ H Q => t σ H fun xs H1 => xs.length <= sizeLine /\ ∀ p, H1 p = none -> Q (.ref p) (upd H1 p (.lst xs))
theorem xV {x1} (h : PA X es t) : PE X (.Tuple es x1 pos) (B2 t) := by
  intro pins s σ H Q I hq
  refine wpAny_Tuple_spliced (thn (h pos pins s σ H _ I hq) fun us s1 ⟨xs, H1, I1, r, z, q⟩ => ⟨by rw [<- r.length]; exact z, ?_⟩)
  have hf : H1 s1.heap.objs.size = none := I1.hok.fresh (Nat.le_refl _)
  refine ⟨.ref s1.heap.objs.size, upd H1 s1.heap.objs.size (.tup xs), I1.laid (t' := s1.toks) (fun b u e => Heap.get?_push_of_some _ e) (Nat.le_refl _) ?_, rfl, q _ hf⟩
  exact ⟨z, us, r, ⟨_, Heap.get?_push_size _ rfl, ⟨rfl, _, rfl⟩, rfl⟩⟩
theorem zE (h : PA X es t) : PE X (.List es pos) (Cb t) := by
  intro pins s σ H Q I hq
  refine wpAny_List_spliced (thn (h pos pins s σ H _ I hq) fun us s1 ⟨xs, H1, I1, r, z, q⟩ => ⟨by rw [<- r.length]; exact z, ?_⟩)
  have hf : H1 s1.heap.objs.size = none := I1.hok.fresh (Nat.le_refl _)
  refine ⟨.ref s1.heap.objs.size, upd H1 s1.heap.objs.size (.lst xs), I1.laid (t' := s1.toks) (fun b u e => Heap.get?_push_of_some _ e) (Nat.le_refl _) ?_, rfl, q _ hf⟩
  exact ⟨z, us, 0, r, Heap.get?_push_size _ rfl⟩
end
noncomputable abbrev Sp := List V -> Hp -> VK -> XK -> Prop
noncomputable abbrev CXT := List Env -> Hp -> Shared -> XK -> Value -> Shared -> Prop
structure xh (P : Program) (w : World) (K : PySem.W.Frag) (mg : Str -> Option Value) (base : Heap) (A : Around) (outer : List Env) (s : Shared) (H : Hp) : Prop where
  frames : A.frames = some outer
  mod : Mod K mg base
  bs : ∀ b o, base.get? b = some o -> s.heap.get? b = some o /\ H b = none
  bsz : base.objs.size <= s.heap.objs.size
  kF : s.heap.FunFrames base outer
  frf : ∀ b ∈ frs outer, H b = none
  hok : HOk P w H s.heap
  bare : AllBare s.gens
noncomputable def CE (outer : List Env) (P : Program) (w : World) (H : Hp) (s : Shared) (Q : VK) (u : Value) (s' : Shared) : Prop :=
  ∃ v H', s'.os = s.os /\ AllBare s'.gens /\ Un (frs outer) [] H H' s.heap s'.heap /\ HOk P w H' s'.heap /\ RelV v u /\ Q v H'
noncomputable def CR (CX : CXT) (outer : List Env) (P : Program) (w : World) (H : Hp) (s : Shared) (Q : VK) (E : XK) (r : Result) (s' : Shared) : Prop :=
  match r with
  | .ok (.ret u) => CE outer P w H s Q u s'
  | .ok _ => False
  | .error e => CX outer H s E e s'
structure eC (P : Program) (w : World) (K : PySem.W.Frag) (mg : Str -> Option Value) (base : Heap) (CX : CXT) (k : Nat) (f : Addr) (fd : FuncData) (ps : List Str) (sp : Sp) : Prop where
  len : ∀ vs H Q E, sp vs H Q E -> vs.length = ps.length
  run : ∀ (A : Around) (outer : List Env) (s : Shared) (H : Hp) (args : Args) (us : List Value) (vs : List V) (Q : VK) (E : XK), fG k A -> xh P w K mg base A outer s H -> BindsTo s fd args (ps.zip us) -> Vals vs us -> sp vs H Q E →
    codeAny (model P w) A (.call (.ref f) args) (CR CX outer P w H s Q E) s
theorem eC.mono {P : Program} {w : World} {K : PySem.W.Frag} {mg : Str -> Option Value} {base : Heap} {CX : CXT} {j k : Nat} {f : Addr} {fd : FuncData} {ps : List Str} {sp : Sp} (F : eC P w K mg base CX j f fd ps sp) (h : j <= k) :
    eC P w K mg base CX k f fd ps sp := ⟨F.len, fun A outer s H args us vs Q E hr => F.run A outer s H args us vs Q E (hr.mono h)⟩
theorem eC.imp {P : Program} {w : World} {K : PySem.W.Frag} {mg : Str -> Option Value} {base : Heap} {CX : CXT} {k : Nat} {f : Addr} {fd : FuncData} {ps : List Str} {sp sp' : Sp} (F : eC P w K mg base CX k f fd ps sp)
    (h : ∀ vs H Q E, sp' vs H Q E -> sp vs H Q E) : eC P w K mg base CX k f fd ps sp' :=
  ⟨fun vs H Q E q => F.len vs H Q E (h _ _ _ _ q), fun A outer s H args us vs Q E hr he hb hv hs => F.run A outer s H args us vs Q E hr he hb hv (h _ _ _ _ hs)⟩
section
variable {X : Cx} {pins : List (Addr × Obj)} {σ : St} {H : Hp} {s s' : Shared}
theorem Inv.Ck (I : Inv X pins σ H s) : xh X.prog X.w X.K X.mg X.base X.A X.stack s H :=
  ⟨I.ok.frames, I.ok.mod, I.bs, Nat.le_trans I.ok.bsz I.sz, I.stack, I.nV, I.hok, I.bare⟩
theorem Inv.after {Q : VK} {u : Value} (I : Inv X pins σ H s) (h : CE X.stack X.prog X.w H s Q u s') : EP X pins σ Q u s' := by
  obtain ⟨v, H', os, bare, un, hok, r, q⟩ := h
  obtain ⟨hh, g, d, t, os'⟩ := s'
  obtain rfl : os' = s.os := os
  exact ⟨v, H', I.call (h' := hh) (g' := g) (d' := d) (t' := t) (ch := []) un hok bare (fun b z => absurd z (by simp)), r, q⟩
end
noncomputable def As (sp : Sp) (dvs : List V) (E : XK) (t : TA) : TE := fun σ H Q => t σ H fun vs H1 => sp (vs ++ dvs) H1 Q E
noncomputable def Binds (K : PySem.W.Frag) (fd : FuncData) (ps : List Str) (ds : List Value) : Prop :=
  ∀ (s : Shared) (us : List Value), K.In s.heap -> (us ++ ds).length = ps.length -> BindsTo s fd ⟨us, []⟩ (ps.zip (us ++ ds))
theorem Binds.all {K : PySem.W.Frag} {fd : FuncData} {ps : List Str} (h : ∀ us : List Value, us.length = ps.length -> bindArgs fd ⟨us, []⟩ = pure (ps.zip us)) : Binds K fd ps [] := fun s us _ hl => by
  rw [List.append_nil] at hl ⊢
  exact .of_eq (h us hl)
noncomputable def Passes (CX : CXT) (X : Cx) (E : XK) : Prop := ∀ (pins : List (Addr × Obj)) (σ : St) (H : Hp) (s : Shared) (e : Value) (s' : Shared), Inv X pins σ H s -> CX X.stack H s E e s' -> X.xe e s'
section
variable {X : Cx} {CX : CXT} {k : Nat} {f C : Addr} {fd : FuncData} {ps : List Str} {sp : Sp} {dvs : List V} {ds : List Value} {E : XK} {x m : Str} {p pos apos : Pos} {e o : Expr} {es : List Expr} {ta : TE} {t : TA}
theorem yC {pins : List (Addr × Obj)} {σ : St} {H : Hp} {s : Shared} {Q : VK} {us : List Value} {vs : List V} (F : eC X.prog X.w X.K X.mg X.base CX k f fd ps sp) (hr : fG k X.A) (hb : Binds X.K fd ps ds) (hd : Vals dvs ds) (hx : Passes CX X E)
    (I : Inv X pins σ H s) (r : Vals vs us) (h : sp (vs ++ dvs) H Q E) : wpAny (model X.prog X.w) X.A (call (.ref f) us) (EP X pins σ Q) X.xe s := by
  have r2 : Vals (vs ++ dvs) (us ++ ds) := r.append hd
  have hl : (us ++ ds).length = ps.length := by rw [<- r2.length]; exact F.len _ _ _ _ h
  refine wpAny_call (codeAny_mono (F.run X.A X.stack s H ⟨us, []⟩ (us ++ ds) (vs ++ dvs) Q E hr I.Ck (hb s us I.kIn hl) r2 h) fun r s' hq => ?_)
  cases r with
  | error e => exact hx pins σ H s e s' I hq
  | ok fl =>
    cases fl with
    | ret u => exact I.after hq
    | next => exact False.elim hq
    | brk => exact False.elim hq
    | cont => exact False.elim hq
theorem xc (F : eC X.prog X.w X.K X.mg X.base CX k f fd ps sp) (hr : fG k X.A) (hg : Gl X x) (hm : X.mg x = some (.ref f)) (hk : PySem.W.keepIn X.K (.ref f) = true) (hb : Binds X.K fd ps ds) (hd : Vals dvs ds) (hx : Passes CX X E)
    (ha : PA X (e :: es) t) (hdb : (x == ("__debug__" : Str)) = false := by decide) (he : starEach (e :: es) X.env = (false, eval e X.env) :: starEach es X.env := by rfl) (hpl : (backTo pos (starEach es X.env)).any (·.1) = false := by rfl) :
    PE X (.Call (.Name x p) (e :: es) [] pos) (As sp dvs E t) := by
  intro pins s σ H Q I h
  refine wpAny_Call_Name_kw (rn I hg hm ?_ hdb)
  refine PySem.W.callWith_K (h₀ := X.base) I.ok.mod.kin hk (thn (ha pos pins s σ H _ I h) fun us s1 ⟨vs, H1, I1, r, q⟩ => ⟨I1.kIn, ?_⟩) he hpl
  exact yC F hr hb hd hx I1 r q
end
structure a_ (N P : List Str) (sc : Scope) : Prop where
  kind : sc.kind = .function
  co : sc.isCoroutine = false
  gen : sc.isGenerator = false
  nd : N.Nodup
  pre : N.take P.length = P
  par : ∀ x ∈ P, sc.names.lookup x = some .local \/ sc.names.lookup x = some .cell
  xU : ∀ y ∈ sc.names, y.2 ≠ .free
theorem mj {kindOf : Str -> Option NameKind} {x : Str} : ∀ {binds : List (Str × Value)} {m : Str -> Option Value}, (∀ v, (x, v) ∉ binds) -> bindL kindOf binds m x = m x
  | [], _, _ => rfl
  | (n, v) :: r, m, h => by
    unfold bindL
    rw [mj fun w hw => h w (List.mem_cons_of_mem _ hw)]
    split
    · have : x ≠ n := by rintro rfl; exact h v List.mem_cons_self
      simp [this]
    · rfl
theorem lZ {kindOf : Str -> Option NameKind} {x : Str} : ∀ {binds : List (Str × Value)} {m : Str -> Option Value}, (∀ v, (x, v) ∉ binds) -> bindC kindOf binds m x = m x
  | [], _, _ => rfl
  | (n, v) :: r, m, h => by
    unfold bindC
    rw [lZ fun w hw => h w (List.mem_cons_of_mem _ hw)]
    split
    · rfl
    · have : x ≠ n := by rintro rfl; exact h v List.mem_cons_self
      simp [this]
theorem mn {kindOf : Str -> Option NameKind} {x : Str} {v : Value} : ∀ {P : List Str} {vs : List Value} {i : Nat} {m : Str -> Option Value}, P.Nodup -> P[i]? = some x -> vs[i]? = some v -> kindOf x = some .local →
    bindL kindOf (P.zip vs) m x = some v
  | [], _, _, _, _, h, _, _ => by simp at h
  | _ :: _, [], _, _, _, _, h, _ => by simp at h
  | p :: P, w :: vs, 0, m, nd, h1, h2, hk => by
    simp at h1 h2; subst h1; subst h2
    show bindL kindOf ((p, w) :: P.zip vs) m p = _
    unfold bindL
    rw [mj fun v hv => (List.nodup_cons.mp nd).1 (List.of_mem_zip hv).1, if_pos hk]
    simp
  | p :: P, w :: vs, i + 1, m, nd, h1, h2, hk => by
    show bindL kindOf ((p, w) :: P.zip vs) m x = _
    unfold bindL
    exact mn (i := i) (List.nodup_cons.mp nd).2 (by simpa using h1) (by simpa using h2) hk
theorem my {kindOf : Str -> Option NameKind} {x : Str} {v : Value} : ∀ {P : List Str} {vs : List Value} {i : Nat} {m : Str -> Option Value}, P.Nodup -> P[i]? = some x -> vs[i]? = some v -> kindOf x ≠ some .local →
    bindC kindOf (P.zip vs) m x = some v
  | [], _, _, _, _, h, _, _ => by simp at h
  | _ :: _, [], _, _, _, _, h, _ => by simp at h
  | p :: P, w :: vs, 0, m, nd, h1, h2, hk => by
    simp at h1 h2; subst h1; subst h2
    show bindC kindOf ((p, w) :: P.zip vs) m p = _
    unfold bindC
    rw [lZ fun v hv => (List.nodup_cons.mp nd).1 (List.of_mem_zip hv).1, if_neg hk]
    simp
  | p :: P, w :: vs, i + 1, m, nd, h1, h2, hk => by
    show bindC kindOf ((p, w) :: P.zip vs) m x = _
    unfold bindC
    exact my (i := i) (List.nodup_cons.mp nd).2 (by simpa using h1) (by simpa using h2) hk
noncomputable def start (N : List Str) (vs : List V) : St := vs.map some ++ List.replicate (N.length - vs.length) none
noncomputable def p9 (CX : CXT) (P : Program) (w : World) (K : PySem.W.Frag) (mg : Str -> Option Value) (base : Heap) (N : List Str) (qual : Str) (scope : Scope) (f : Addr) (cd : Value) (A : Around) (outer : List Env) (s : Shared) (H : Hp) (E : XK) : Cx where
  prog := P
  w := w
  K := K
  mg := mg
  base := base
  A := A.deeper (envOfC qual scope s.heap.objs.size f cd)
  N := N
  aQ := s
  bx := H
  env := envOfC qual scope s.heap.objs.size f cd
  outer := outer
  stack := envOfC qual scope s.heap.objs.size f cd :: outer
  ex := []
  calm := true
  fn := fun _ => true
  pn := []
  xe := fun e s' => wpAny (model P w) (A.deeper (envOfC qual scope s.heap.objs.size f cd)) (leaving (envOfC qual scope s.heap.objs.size f cd) e) (fun _ s'' => CX outer H s E e s'') (fun e' s'' => CX outer H s E e' s'') s'
theorem oj {sc : Scope} {n : Nat} {x : Str} (h : sc.names.lookup x = some .cell) : ∃ c, (cellsFrom n sc.names []).lookup x = some c := by
  have q := PySem.W.cellsFrom_some sc.names n [] (.inl h)
  exact Option.isSome_iff_exists.mp q
theorem rF {CX : CXT} {P : Program} {w : World} {K : PySem.W.Frag} {mg : Str -> Option Value} {base : Heap} {N ps : List Str} {qual : Str} {scope : Scope} {f : Addr} {cd : Value} {A : Around} {outer : List Env} {s s1 : Shared} {H : Hp} {E : XK} {us : List Value} {vs : List V}
    (S : a_ N ps scope) (hd : A.handled = none) (e0 : xh P w K mg base A outer s H) (hl : vs.length = ps.length) (r : Vals vs us)
    (x : InCallC s s.heap.objs.size (bindL (envOfC qual scope s.heap.objs.size f cd).kindOf (ps.zip us) fun _ => none) (cellsFrom (s.heap.objs.size + 1) scope.names []) (bindC (envOfC qual scope s.heap.objs.size f cd).kindOf (ps.zip us) fun _ => none) s1) :
    Inv (p9 CX P w K mg base N qual scope f cd A outer s H E) [] (start N vs) H s1 := by
  have hpl : ps.length <= N.length := by have := congrArg List.length S.pre; rw [List.length_take] at this; omega
  obtain ⟨h1, tk, rfl, hk⟩ := x.done
  have noA : ∀ b : Addr, b ∉ (p9 CX P w K mg base N qual scope f cd A outer s H E).ex := fun b z => absurd (show b ∈ ([] : List Addr) from z) (by simp)
  refine ⟨⟨e0.mod, S.kind, rfl, rfl, Nat.le_refl _, fun y z c h1 h2 => ?_, fun y hy => ?_, fun y c _ h => ?_, fun _ => hd, Around.frames_deeper e0.frames, .inr ⟨rfl, rfl⟩, fun b z => absurd z (noA b), e0.bs, e0.bsz, fun b _ _ => noA b, fun b z => absurd z (noA b), e0.kF, e0.frf⟩,
    rfl, e0.bare, Un.kept hk, ⟨_, x.toInCall.ns, fun i y v h1 h2 h3 => ?_⟩, fun y c h => ⟨_, x.cell y c h⟩, e0.hok.fresh (Nat.le_refl _), fun y c h => ?_, fun p hp => absurd (show p ∈ ([] : List (Addr × Obj)) from hp) (by simp), e0.hok.kept hk, ?_⟩
  · exact name_of_addr x.apart (PySem.mem_of_lookup h1) (PySem.mem_of_lookup h2)
  · have hy : scope.names.lookup y = some .cell \/ scope.names.lookup y = some .free := hy
    rcases hy with hy | hy
    · exact oj hy
    · exact absurd rfl (S.xU _ (PySem.mem_of_lookup hy))
  · exact Nat.le_of_lt (x.above y c (PySem.mem_of_lookup h))
  · have hi : i < vs.length := by
      unfold start at h2
      by_cases hi : i < vs.length
      · exact hi
      · rw [List.getElem?_append_right (by simpa using hi)] at h2
        rw [List.getElem?_replicate] at h2
        split at h2 <;> cases h2
    have ha : vs[i]? = some v := by
      unfold start at h2
      rw [List.getElem?_append_left (by simpa using hi), List.getElem?_map] at h2
      cases e : vs[i]? with
      | none => rw [e] at h2; cases h2
      | some a => rw [e] at h2; cases h2; rfl
    obtain ⟨u, hu, rv⟩ := r.get ha
    have hp : ps[i]? = some y := by
      rw [<- S.pre, List.getElem?_take_of_lt (by omega)]; exact h1
    have ndP : ps.Nodup := by rw [<- S.pre]; exact S.nd.sublist (List.take_sublist _ _)
    refine ⟨u, rv, ?_⟩
    rcases S.par y (List.mem_of_getElem? hp) with k | k
    · exact .inl ⟨k, mn ndP hp hu k⟩
    · obtain ⟨c, e⟩ := oj (n := s.heap.objs.size + 1) k
      refine .inr ⟨.inl k, c, e, ?_⟩
      have q := x.cell y c e
      rw [my ndP hp hu (by show scope.names.lookup y ≠ _; rw [k]; decide)] at q
      exact q
  · exact e0.hok.fresh (Nat.le_of_lt (x.above y c (PySem.mem_of_lookup h)))
  · unfold start
    show _ = N.length
    rw [List.length_append, List.length_map, List.length_replicate]
    omega
theorem Aa {CX : CXT} {P : Program} {w : World} {K : PySem.W.Frag} {mg : Str -> Option Value} {base : Heap} {k : Nat} {f : Addr} {name qual : Str} {params : Arguments} {body : List Stmt} {scope : Scope} {dV kV doc pm cdv ct oc : Value} {an od : Option Addr}
    {osl : Array (Option Value)} {N ps : List Str} {sp : Sp} (lk : K.lookup f = some ⟨oc, od, .func (PySem.W.fnOf name qual params body scope dV kV doc pm an cdv ct), osl⟩) (hcd : PySem.W.codeIn K cdv qual = true) (S : a_ N ps scope)
    (len : ∀ vs H Q E, sp vs H Q E -> vs.length = ps.length)
    (hbody : ∀ (A : Around) (outer : List Env) (s : Shared) (H : Hp) (vs : List V) (Q : VK) (E : XK), fG k (A.deeper (envOfC qual scope s.heap.objs.size f cdv)) -> sp vs H Q E →
      ∃ t, PSs (p9 CX P w K mg base N qual scope f cdv A outer s H E) body t /\ t { nx := fun _ H' => Q .non H', rt := Q } (start N vs) H) :
    eC P w K mg base CX (k + 1) f (PySem.W.fnOf name qual params body scope dV kV doc pm an cdv ct) ps sp := by
  refine ⟨len, fun A outer s H args us vs Q E hr e0 hb r hsp => ?_⟩
  have hl := len _ _ _ _ hsp
  have KX : K.In s.heap := e0.mod.kin.keeps fun b o e => (e0.bs b o e).1
  have lim : s.heap.NoLimit := e0.mod.nolimit.keeps fun b o e => (e0.bs b o e).1
  have hkind : ∀ y ∈ ps.zip us, scope.names.lookup y.1 = some .local \/ (scope.names.lookup y.1 = some .cell /\ ((cellsFrom (s.heap.objs.size + 1) scope.names []).lookup y.1).isSome = true) := fun ⟨n, v⟩ hy => by
    rcases S.par n (List.of_mem_zip hy).1 with q | q
    · exact .inl q
    · exact .inr ⟨q, PySem.W.cellsFrom_some _ _ _ (.inl q)⟩
  refine codeAny_call_function hr.depth (KX _ _ lk) rfl S.co S.gen rfl (PySem.W.codeRec_of KX hcd) (hb _ _ _ _ ?_)
  refine wpAny_newFunctionEnv_cells S.kind hkind fun env he s1 x => ?_
  subst he
  refine ⟨lim.keeps x.toInCall.keep, codeAny_func ?_⟩
  obtain ⟨t, ht, hq⟩ := hbody A outer s H vs Q E (hr.deeper _) hsp
  have I : Inv (p9 CX P w K mg base N qual scope f cdv A outer s H E) [] (start N vs) H s1 := rF S hr.hd e0 hl r x
  refine wpAny_mono (ht [] s1 (start N vs) H _ I hq) (fun fl s' hs => ?_) fun e s' hs => hs
  have fin : ∀ {σ' : St} {H' : Hp} {v : V} {u : Value}, Inv (p9 CX P w K mg base N qual scope f cdv A outer s H E) [] σ' H' s' -> RelV v u -> Q v H' -> CE outer P w H s Q u s' :=
    fun {σ' H' v u} J rv q => ⟨v, H', J.os, J.bare, J.base, J.hok, rv, q⟩
  cases fl with
  | ret u =>
    obtain ⟨v, σ', H', J, rv, q⟩ := hs
    exact fin J rv q
  | next =>
    obtain ⟨σ', H', J, q⟩ := hs
    exact fin (v := V.non) (u := Value.none) J rfl q
  | brk =>
    obtain ⟨_, _, _, q⟩ := hs
    exact False.elim q
  | cont =>
    obtain ⟨_, _, _, q⟩ := hs
    exact False.elim q
section
variable {X : Cx} {x : Str} {p pos : Pos} {e : Expr} {es : List Expr} {t : TA} {id T : String} {r : List V -> Hp -> VK -> Prop}
noncomputable def tCB (r : List V -> Hp -> VK -> Prop) (t : TA) : TE := fun σ H Q => t σ H fun vs H1 => r vs H1 Q
theorem oy (hc : bL X (.builtin id) r) (hg : Gl X x) (hm : X.mg x = none) (hv : bootBuiltins x = some (.builtin id)) (ha : PA X (e :: es) t) (hn : x ≠ "__name__" := by decide) (hdb : (x == ("__debug__" : Str)) = false := by decide)
    (he : starEach (e :: es) X.env = (false, eval e X.env) :: starEach es X.env := by rfl) (hpl : (backTo pos (starEach es X.env)).any (·.1) = false := by rfl) : PE X (.Call (.Name x p) (e :: es) [] pos) (tCB r t) := by
  intro pins s σ H Q I h
  refine wpAny_Call_Name_kw (kK I hg hm hv ?_ hn hdb)
  exact PyProof.Rows.callWith_builtin1 (thn (ha pos pins s σ H _ I h) fun us s1 ⟨vs, H1, I1, r1, q1⟩ => hc pins s1 σ H1 vs us Q I1 r1 q1) he hpl
theorem js (hc : bL X (.type T) r) (hg : Gl X x) (hm : X.mg x = none) (hv : bootBuiltins x = some (.type T)) (ha : PA X (e :: es) t) (hn : x ≠ "__name__" := by decide) (hdb : (x == ("__debug__" : Str)) = false := by decide)
    (he : starEach (e :: es) X.env = (false, eval e X.env) :: starEach es X.env := by rfl) (hpl : (backTo pos (starEach es X.env)).any (·.1) = false := by rfl) : PE X (.Call (.Name x p) (e :: es) [] pos) (tCB r t) := by
  intro pins s σ H Q I h
  refine wpAny_Call_Name_kw (kK I hg hm hv ?_ hn hdb)
  exact PyProof.Rows.callWith_type1 (thn (ha pos pins s σ H _ I h) fun us s1 ⟨vs, H1, I1, r1, q1⟩ => hc pins s1 σ H1 vs us Q I1 r1 q1) he hpl
end
end L2
namespace HT
open PySem PyProof.Rows
section
variable {prog : Program} {w : World} {A : Around} {E : Value -> Shared -> Prop} {s : Shared}
theorem wy {t b : Addr} {vs ws : List Value} {Q : Value -> Shared -> Prop} (ht : IsTup s.heap t vs.toArray) (hb : IsTup s.heap b ws.toArray) (hv : vs ≠ [])
    (h1 : ws = [] -> Q (.ref t) s) (h2 : ws ≠ [] -> Q (.ref s.heap.objs.size) { s with heap := s.heap.push { cls := .type "tuple", data := .seq (vs ++ ws).toArray } })
    (hsz : vs.length + ws.length <= sizeLine) : wpAny (model prog w) A (binaryOp .Add (.ref t) (.ref b)) Q E s := by
  obtain ⟨⟨cls, dd, data, sl⟩, ho, hc, n, hd⟩ := id ht
  obtain ⟨⟨cls2, dd2, data2, sl2⟩, ho2, hc2, n2, hd2⟩ := id hb
  simp only at hc hd hc2 hd2
  subst hc hd hc2 hd2
  have e : vs.toArray ++ ws.toArray = (vs ++ ws).toArray := by simp
  by_cases hw : ws = []
  · exact concat_meets ⟨_, ho, rfl⟩ ⟨_, ho2, rfl⟩ noFill_tuple_add seq_tuple_add PySem.F.slot_tuple_add PySem.F.entry_tuple_add (PySem.F.args_tuple_add_2 _ _)
      (tuple_addW1 t b vs.toArray ws.toArray n n2 dd dd2 sl sl2 (by simpa using hv) (by simp [hw])) ⟨ho, ho2, h1 hw⟩
  · refine concat_meets ⟨_, ho, rfl⟩ ⟨_, ho2, rfl⟩ noFill_tuple_add seq_tuple_add PySem.F.slot_tuple_add PySem.F.entry_tuple_add (PySem.F.args_tuple_add_2 _ _)
      (tuple_addW2 t b vs.toArray ws.toArray n n2 dd dd2 sl sl2 (by simpa using hv) (by simpa using hw) (by rw [List.size_toArray, List.size_toArray]; exact hsz)) ⟨ho, ho2, ?_⟩
    rw [e]
    exact h2 hw
noncomputable def sIx (n d : Nat) : Option Int -> Nat
  | none => d
  | some v => if v < 0 then (v + (n : Int)).toNat else min v.toNat n
theorem yk (n d : Nat) (hd : d <= n) (o : Option Int) : sIx n d o <= n := by
  cases o with
  | none => exact hd
  | some v =>
    show (if v < 0 then (v + (n : Int)).toNat else min v.toNat n) <= n
    by_cases hv : v < 0
    · rw [if_pos hv]; omega
    · rw [if_neg hv]; exact Nat.min_le_right _ _
theorem qQ (v : Int) (n d : Nat) : (if v < 0 then max (v + (n : Int)) 0 else min v (n : Int)) = ((sIx n d (some v) : Nat) : Int) := by
  show (if v < 0 then max (v + (n : Int)) 0 else min v (n : Int)) = (((if v < 0 then (v + (n : Int)).toNat else min v.toNat n) : Nat) : Int)
  by_cases hv : v < 0
  · simp only [if_pos hv]; omega
  · simp only [if_neg hv]; omega
theorem ql (lo hi : Option Int) (n : Nat) : Builtin.Slice.sliceAdjust lo hi 1 (n : Int) = (((sIx n 0 lo : Nat) : Int), ((sIx n n hi : Nat) : Int)) := by
  have h1 : ¬ ((1 : Int) < 0) := by omega
  unfold Builtin.Slice.sliceAdjust
  simp only [h1, if_false]
  refine Prod.ext ?_ ?_
  · cases lo with
    | none => rfl
    | some v => exact qQ v n 0
  · cases hi with
    | none => rfl
    | some v => exact qQ v n n
theorem p7 (i j : Nat) : Builtin.Slice.slicePlaces (i : Int) (j : Int) 1 = j - i := by
  unfold Builtin.Slice.slicePlaces
  have h1 : (1 : Int) > 0 := by omega
  simp only [h1, if_true, Int.ediv_one]
  split <;> omega
theorem k_ {v : Value} {o : Option Int} {Q : Option Int -> Shared -> Prop} (p : IsPart v o) (h : Q o s) : wpAny (model prog w) A (Builtin.Slice.slicePartIndex v) Q E s := by
  cases p with
  | none => exact slicePart_none h
  | int i t => exact slicePart_int h
theorem fI {sl : Addr} {vl vu : Value} {lo hi : Option Int} {n : Nat} {Q : Int × Int × Nat -> Shared -> Prop} (hs : s.heap.IsSliceOf sl vl vu .none) (pl : IsPart vl lo) (pu : IsPart vu hi)
    (h : Q (((sIx n 0 lo : Nat) : Int), 1, sIx n n hi - sIx n 0 lo) s) : wpAny (model prog w) A (Builtin.Slice.sliceApplied (.ref sl) (pure (n : Int))) Q E s := by
  obtain ⟨os, hos, hcs, hds⟩ := id hs
  unfold Builtin.Slice.sliceApplied Builtin.Slice.sliceFields
  refine wpAny_bind (wpAny_bind (wpAny_field hos hds (x := vl) rfl (wpAny_bind (wpAny_field hos hds (x := vu) rfl (wpAny_bind (wpAny_field hos hds (x := .none) rfl (wpAny_pure ?_)))))))
  refine wpAny_bind (slicePart_none ?_)
  show wpAny _ _ (if ((1 : Int) == 0) = true then _ else _) _ _ s
  rw [if_neg (by decide)]
  refine wpAny_bind (k_ pl (wpAny_bind (k_ pu (wpAny_bind (wpAny_pure ?_)))))
  show wpAny _ _ (match Builtin.Slice.sliceAdjust lo hi 1 (n : Int) with | (lo, hi) => pure (lo, (1 : Int), Builtin.Slice.slicePlaces lo hi 1)) _ _ s
  rw [ql lo hi n]
  show wpAny _ _ (pure (((sIx n 0 lo : Nat) : Int), (1 : Int), Builtin.Slice.slicePlaces ((sIx n 0 lo : Nat) : Int) ((sIx n n hi : Nat) : Int) 1)) _ _ s
  rw [p7]
  exact wpAny_pure h
theorem tR (xs : Array Value) (i k : Nat) : ((List.range k).filterMap fun (m : Nat) => xs[((i : Int) + (m : Int) * 1).toNat]?).toArray = ((xs.toList.drop i).take k).toArray := by
  have e : (fun (m : Nat) => xs[((i : Int) + (m : Int) * 1).toNat]?) = fun m => xs[i + m]? := by
    funext m
    have : ((i : Int) + (m : Int) * 1).toNat = i + m := by omega
    rw [this]
  rw [e]
  have := pick_run xs i k
  rw [List.filterMap_map] at this
  have e2 : ((fun x => xs[x]?) ∘ fun x => i + x) = fun m => xs[i + m]? := rfl
  rw [e2] at this
  rw [this]
theorem iR {t sl : Addr} {items : Array Value} {vl vu : Value} {lo hi : Option Int} {Q : Value -> Shared -> Prop} (ht : IsTup s.heap t items) (hs : s.heap.IsSliceOf sl vl vu .none) (pl : IsPart vl lo) (pu : IsPart vu hi)
    (hw : ¬ (sIx items.size 0 lo = 0 /\ sIx items.size items.size hi = items.size))
    (h : Q (.ref s.heap.objs.size) { s with heap := s.heap.push { cls := .type "tuple", data := .seq ((items.toList.drop (sIx items.size 0 lo)).take (sIx items.size items.size hi - sIx items.size 0 lo)).toArray } })
    (hsz : items.size <= sizeLine) : wpAny (model prog w) A (getItem (.ref t) (.ref sl)) Q E s := by
  have htake : sizeOk (.seq ((items.toList.drop (sIx items.size 0 lo)).take (sIx items.size items.size hi - sIx items.size 0 lo)).toArray) := by
    show ((items.toList.drop (sIx items.size 0 lo)).take (sIx items.size items.size hi - sIx items.size 0 lo)).toArray.size <= sizeLine
    rw [List.size_toArray, List.length_take, List.length_drop, Array.length_toList]
    omega
  have hj : sIx items.size items.size hi <= items.size := yk _ _ (Nat.le_refl _) hi
  obtain ⟨os, hos, hcs, hds⟩ := id hs
  have hTs : s.TypeIs (.ref sl) "slice" := ⟨os, hos, hcs⟩
  unfold getItem
  try with_reducible refine wpAny_holding ?_
  first | refine wpAny_bind (wpAny_pure ?_) | skip
  refine wpAny_bind (wpAny_sequenceKey ht.typeIs (by decide) ?_)
  refine wpAny_bind (wpAny_callSpecial?_slot (name := Str.ofString "__getitem__") ht.typeIs PyProof.Rows.slot_tuple_getitem
    (wpAny_call_entry PyProof.Rows.slot_tuple_getitem ht.typeIs entry_tuple_getitem ?_ (args_tuple_getitem _ _)))
  show wpAny _ _ (Builtin.Tuple.tupleItemsOf (.ref t) >>= _) _ _ s
  refine wpAny_bind (tupleItemsOf_ ht ?_)
  refine wpAny_bind (wpAny_typeOf hTs ?_)
  rw [if_pos (by decide)]
  refine wpAny_bind (fI hs pl pu ?_)
  have hno : ¬ ((((sIx items.size 0 lo : Nat) : Int) == 0 && (1 : Int) == 1 && (sIx items.size items.size hi - sIx items.size 0 lo) == items.size) = true) := by
    intro q
    rw [Bool.and_eq_true, Bool.and_eq_true] at q
    have q1 : ((sIx items.size 0 lo : Nat) : Int) = 0 := eq_of_beq q.1.1
    have q2 : sIx items.size items.size hi - sIx items.size 0 lo = items.size := eq_of_beq q.2
    exact hw ⟨by omega, by omega⟩
  show wpAny _ _ (if (((sIx items.size 0 lo : Nat) : Int) == 0 && (1 : Int) == 1 && (sIx items.size items.size hi - sIx items.size 0 lo) == items.size) = true then _ else _) _ _ s
  rw [if_neg hno, tR]
  first
    | exact wpAny_bind (m := Builtin.Tuple.tupleExact _) (wpAny_newObj_type (wpAny_pure ⟨_, rfl, wpAny_pure h⟩) htake)
    | exact wpAny_bind (m := Builtin.Tuple.tupleExact _) (wpAny_newObj_type (wpAny_bind (wpAny_pure (wpAny_pure ⟨_, rfl, wpAny_pure h⟩))) htake)
    | exact wpAny_bind (wpAny_bind (m := Builtin.Tuple.tupleExact _) (wpAny_newObj_type (wpAny_pure (wpAny_pure ⟨_, rfl, wpAny_pure h⟩)) htake))
    | exact wpAny_bind (wpAny_bind (m := Builtin.Tuple.tupleExact _) (wpAny_newObj_type (wpAny_pure ⟨_, rfl, wpAny_pure h⟩) htake))
end
end HT
namespace L2
open PySem PySem.Spec PyProof.Rows
noncomputable abbrev TO := St -> Hp -> (Option Int -> Hp -> Prop) -> Prop
noncomputable def PO (X : Cx) (e : Option Expr) (t : TO) : Prop :=
  ∀ (pins : List (Addr × Obj)) (s : Shared) (σ : St) (H : Hp) (Q : Option Int -> Hp -> Prop), Inv X pins σ H s -> t σ H Q →
    wpAny (model X.prog X.w) X.A (evalPart e X.env) (fun u s' => ∃ o H', Inv X pins σ H' s' /\ IsPart u o /\ Q o H') X.xe s
noncomputable def A4 (t : TE) : TO := fun σ H Q => t σ H fun x H1 => ∃ i, x = .int i /\ Q (some i) H1
section
variable {X : Cx} {e : Expr} {te : TE} {lo hi : Option Expr} {tl th : TO} {pos p2 : Pos}
theorem wZ (h : PE X e te) : PO X (some e) (A4 te) := by
  intro pins s σ H Q I hw
  rw [evalPart_some]
  refine thn (h pins s σ H _ I hw) fun u s1 ⟨x, H1, I1, r1, q1⟩ => ?_
  obtain ⟨i, rfl, q⟩ := q1
  obtain ⟨t, rfl⟩ := r1
  exact ⟨some i, H1, I1, .int i t, q⟩
noncomputable def SlR (X : Cx) (r : V -> Option Int -> Option Int -> Hp -> VK -> Prop) : Prop :=
  ∀ (pins : List (Addr × Obj)) (s : Shared) (σ : St) (H : Hp) (x : V) (v vl vu : Value) (lo hi : Option Int) (sl : Addr) (Q : VK), Inv X pins σ H s -> RelV x v -> s.heap.IsSliceOf sl vl vu .none -> IsPart vl lo -> IsPart vu hi -> r x lo hi H Q →
    ∃ T id, typeLookup (.type T) "__getitem__" = pure (some (.builtin id)) /\ s.TypeIs v T /\ wpAny (model X.prog X.w) X.A (getItem v (.ref sl)) (EP X pins σ Q) X.xe s
theorem SlR.or {r r' : V -> Option Int -> Option Int -> Hp -> VK -> Prop} (h : SlR X r) (h' : SlR X r') : SlR X (fun x lo hi H Q => r x lo hi H Q \/ r' x lo hi H Q) := by
  intro pins s σ H x v vl vu lo hi sl Q I rx hs pl pu q
  rcases q with q | q
  · exact h pins s σ H x v vl vu lo hi sl Q I rx hs pl pu q
  · exact h' pins s σ H x v vl vu lo hi sl Q I rx hs pl pu q
noncomputable def tSl (r : V -> Option Int -> Option Int -> Hp -> VK -> Prop) (te : TE) (tl th : TO) : TE := fun σ H Q => te σ H fun x H1 => tl σ H1 fun l H2 => th σ H2 fun u H3 => r x l u H3 Q
theorem u0 {r : V -> Option Int -> Option Int -> Hp -> VK -> Prop} (hr : SlR X r) (he : PE X e te) (hl : PO X lo tl) (hu : PO X hi th) : PE X (.Subscript e (.Slice lo hi none p2) pos) (tSl r te tl th) := by
  intro pins s σ H Q I h
  refine Subscript_ (thn (he pins s σ H _ I h) fun v s1 ⟨x, H1, I1, r1, q1⟩ => ?_)
  refine wpAny_Slice (thn (hl pins s1 σ H1 _ I1 q1) fun vl s2 ⟨l, H2, I2, pl, q2⟩ => thn (hu pins s2 σ H2 _ I2 q2) fun vu s3 ⟨u, H3, I3, pu, q3⟩ => ?_)
  rw [evalPart_none]
  refine wpAny_pure ?_
  have I4 : Inv X pins σ H3 { s3 with heap := s3.heap.push { cls := .type "slice", data := .fields #[vl, vu, .none] } } := I3.kept (t' := s3.toks) fun b ob q => Heap.get?_push_of_some _ q
  obtain ⟨T, id, hT, ht, hg⟩ := hr pins { s3 with heap := s3.heap.push { cls := .type "slice", data := .fields #[vl, vu, .none] } } σ H3 x v vl vu l u s3.heap.objs.size Q I4 r1 (Heap.IsSliceOf.new ..) pl pu q3
  show wpAny (model X.prog X.w) X.A (subscriptTail e (.Slice lo hi none p2) v (.ref s3.heap.objs.size)) (EP X pins σ Q) X.xe { s3 with heap := s3.heap.push { cls := .type "slice", data := .fields #[vl, vu, .none] } }
  exact tail_any (ops := [.ref s3.heap.objs.size, v]) ht hT hg (by with_unfolding_all rfl)
noncomputable def lN (xs : List V) (lo hi : Option Int) : List V := (xs.drop (HT.sIx xs.length 0 lo)).take (HT.sIx xs.length xs.length hi - HT.sIx xs.length 0 lo)
theorem jW (xs : List V) (lo hi : Option Int) : (lN xs lo hi).length <= xs.length := by
  unfold lN
  rw [List.length_take, List.length_drop]
  omega
noncomputable def BP (K : PySem.W.Frag) : V -> Option Int -> Option Int -> Hp -> VK -> Prop := fun x lo hi H Q => ∃ a xs, x = .ref a /\ SqT K H a xs ∧
  ¬ (HT.sIx xs.length 0 lo = 0 /\ HT.sIx xs.length xs.length hi = xs.length) /\ ∀ p, H p = none -> Q (.ref p) (upd H p (.tup (lN xs lo hi)))
theorem zx : SlR X (BP X.K) := by
  intro pins s σ H x v vl vu lo hi sl Q I rx hs pl pu h
  obtain ⟨a, xs, rfl, hx, hw, q⟩ := h
  cases rx
  obtain ⟨its, r, ht, hz⟩ := I.tuple hx
  have hlen : its.toArray.size = xs.length := by rw [List.size_toArray]; exact r.length.symm
  refine ⟨"tuple", _, PyProof.Rows.slot_tuple_getitem.lookup, ht.typeIs, ?_⟩
  refine HT.iR ht hs pl pu (by rw [hlen]; exact hw) ?_ (by rw [hlen]; exact hz)
  rw [hlen]
  refine ⟨.ref s.heap.objs.size, _, I.laid (t' := s.toks) (o := .tup (lN xs lo hi)) (fun b ob q => Heap.get?_push_of_some _ q) (Nat.le_refl _) ?_, rfl, q _ (I.hok.fresh (Nat.le_refl _))⟩
  exact ⟨Nat.le_trans (jW xs lo hi) hz, _, (r.drop (HT.sIx xs.length 0 lo)).take (HT.sIx xs.length xs.length hi - HT.sIx xs.length 0 lo), p5.new _ _⟩
noncomputable def xI (K : PySem.W.Frag) : R2 := fun x y H Q => ∃ a b xs ys, x = .ref a /\ y = .ref b /\ SqT K H a xs /\ SqT K H b ys /\ xs ≠ [] /\ xs.length + ys.length <= sizeLine ∧
  (ys = [] -> Q (.ref a) H) /\ (ys ≠ [] -> ∀ p, H p = none -> Q (.ref p) (upd H p (.tup (xs ++ ys))))
theorem Vals.m5 {xs : List V} {us : List Value} (r : Vals xs us) : us = [] ↔ xs = [] := by
  cases r with
  | nil => simp
  | cons _ _ => simp
theorem vC : OpR X (binaryOp .Add) (xI X.K) := by
  intro pins s σ H x y v u Q I rx ry h
  obtain ⟨a, b, xs, ys, rfl, rfl, ha, hb, hx, hz, q1, q2⟩ := h
  cases rx
  cases ry
  obtain ⟨its, r1, p1, _⟩ := I.tuple ha
  obtain ⟨its2, r2, p2, _⟩ := I.tuple hb
  refine HT.wy p1 p2 (fun z => hx (r1.m5.mp z)) (fun z => ⟨.ref a, H, I, rfl, q1 (r2.m5.mp z)⟩) (fun z => ?_) (by rw [<- r1.length, <- r2.length]; exact hz)
  refine ⟨.ref s.heap.objs.size, _, I.laid (t' := s.toks) (o := .tup (xs ++ ys)) (fun b ob q => Heap.get?_push_of_some _ q) (Nat.le_refl _) ?_, rfl, q2 (fun w => z (r2.m5.mpr w)) _ (I.hok.fresh (Nat.le_refl _))⟩
  exact ⟨by rw [List.length_append]; exact hz, _, r1.append r2, p5.new _ _⟩
end
noncomputable def ixN (n : Nat) (i : Int) : Option Nat := if 0 <= i then (if i < n then some i.toNat else none) else if -(n : Int) <= i then some (i + n).toNat else none
noncomputable def atI {α : Type} (xs : List α) (i : Int) : Option α := (ixN xs.length i).bind fun j => xs[j]?
theorem qK {n : Nat} {i : Int} {j : Nat} (h : ixN n i = some j) : seqIndex? i n = some j /\ j < n /\ -(n : Int) <= i /\ i < n := by
  unfold ixN at h
  by_cases h0 : 0 <= i
  · rw [if_pos h0] at h
    by_cases h1 : i < n
    · rw [if_pos h1] at h
      have e : i.toNat = j := Option.some.inj h
      exact ⟨by rw [seqIndex_of h0 h1, e], by omega, by omega, h1⟩
    · rw [if_neg h1] at h; cases h
  · rw [if_neg h0] at h
    by_cases h1 : -(n : Int) <= i
    · rw [if_pos h1] at h
      have e : (i + n).toNat = j := Option.some.inj h
      exact ⟨by rw [seqIndex_neg (by omega) h1, e], by omega, h1, by omega⟩
    · rw [if_neg h1] at h; cases h
theorem n5 {α : Type} {xs : List α} {i : Int} {v : α} (h : atI xs i = some v) : ∃ j, seqIndex? i xs.length = some j /\ xs[j]? = some v /\ j < xs.length /\ -(xs.length : Int) <= i /\ i < xs.length := by
  unfold atI at h
  cases e : ixN xs.length i with
  | none => rw [e] at h; cases h
  | some j =>
    rw [e] at h
    obtain ⟨h1, h2, h3, h4⟩ := qK e
    exact ⟨j, h1, h, h2, h3, h4⟩
theorem wc {α : Type} {xs : List α} {j : Nat} {v : α} (h : xs[j]? = some v) : atI xs (j : Int) = some v := by
  have hj : j < xs.length := (List.getElem?_eq_some_iff.mp h).1
  have e : ixN xs.length (j : Int) = some j := by
    unfold ixN
    rw [if_pos (by omega), if_pos (by omega)]; simp
  unfold atI; rw [e]; exact h
noncomputable def qX (b : Expr) : Prop := ∀ o i, subscripted b false o i = operate [o, i] (getItem o i)
noncomputable def IxR (X : Cx) (r : R2) : Prop :=
  ∀ (value slice : Expr) (pins : List (Addr × Obj)) (s : Shared) (σ : St) (H : Hp) (x y : V) (v u : Value) (Q : VK), Inv X pins σ H s -> RelV x v -> RelV y u -> r x y H Q →
    subscripted slice false v u = operate [v, u] (getItem v u) -> wpAny (model X.prog X.w) X.A (subscriptTail value slice v u) (EP X pins σ Q) X.xe s
noncomputable def MtR (X : Cx) (id : String) (r : V -> List V -> Hp -> VK -> Prop) : Prop :=
  ∀ (pins : List (Addr × Obj)) (s : Shared) (σ : St) (H : Hp) (x : V) (xs : List V) (v : Value) (us : List Value) (Q : VK), Inv X pins σ H s -> RelV x v -> Vals xs us -> r x xs H Q →
    wpAny (model X.prog X.w) X.A (call (.builtin id) (v :: us)) (EP X pins σ Q) X.xe s
section
variable {X : Cx} {a b : Expr} {ta tb : TE} {pos : Pos}
theorem IxR.or {r r' : R2} (h : IxR X r) (h' : IxR X r') : IxR X (fun x y H Q => r x y H Q \/ r' x y H Q) := by
  intro value slice pins s σ H x y v u Q I rx ry q hs
  rcases q with q | q
  · exact h value slice pins s σ H x y v u Q I rx ry q hs
  · exact h' value slice pins s σ H x y v u Q I rx ry q hs
theorem AI {r : R2} (hr : IxR X r) (ha : PE X a ta) (hb : PE X b tb) (hs : qX b) : PE X (.Subscript a b pos) (tOp r ta tb) := by
  intro pins s σ H Q I h
  exact Subscript_ (zt ha hb I h fun v u s2 x y H2 I2 rx ry q => hr a b pins s2 σ H2 x y v u Q I2 rx ry q (hs _ _))
noncomputable def zS (K : PySem.W.Frag) : R2 := fun x y H Q => ∃ p xs i v, x = .ref p /\ y = .int i /\ SqL K H p xs /\ atI xs i = some v /\ Q v H
noncomputable def zZ (K : PySem.W.Frag) : R2 := fun x y H Q => ∃ p xs i v, x = .ref p /\ y = .int i /\ SqT K H p xs /\ atI xs i = some v /\ Q v H
noncomputable def Av : R2 := fun x y H Q => ∃ z i c, x = .str z /\ y = .int i /\ z.length <= sizeLine /\ atI z.cps.toList i = some c /\ Q (.str ⟨#[c]⟩) H
theorem vy : IxR X (zS X.K) := by
  intro value slice pins s σ H x y v u Q I rx ry h hs
  obtain ⟨p, xs, i, z, rfl, rfl, hq, he, q⟩ := h
  cases rx
  obtain ⟨t, rfl⟩ := ry
  obtain ⟨its, r, pl, hz⟩ := I.list hq
  obtain ⟨j, h1, h2, h3, h4, h5⟩ := n5 he
  obtain ⟨w, ew, rw'⟩ := r.get h2
  have hl := r.length
  have hn := iD
  have fin : EP X pins σ Q w s := ⟨z, H, I, rw', q⟩
  by_cases h0 : 0 <= i
  · have hj : i.toNat = j := by
      rw [seqIndex_of h0 h5] at h1
      exact Option.some.inj h1
    exact item_listR pl.isList h0 (by omega) (by rw [hj]; simpa using ew) fin hs
  · have hj : (i + (its.toArray.size : Int)).toNat = j := by
      rw [seqIndex_neg (by omega) h4] at h1
      rw [List.size_toArray, <- hl]
      exact Option.some.inj h1
    exact subscriptTail_builtinR (x := w) pl.isList.typeIs slot_list_getitem.lookup
      (wpAny_getItem_list_neg (Q := fun r s' => r = w /\ EP X pins σ Q r s') pl.isList (by omega) (by rw [List.size_toArray] <;> omega) (by omega) (by rw [hj]; simpa using ew) ⟨rfl, fin⟩) hs
theorem zD : IxR X (zZ X.K) := by
  intro value slice pins s σ H x y v u Q I rx ry h hs
  obtain ⟨p, xs, i, z, rfl, rfl, hq, he, q⟩ := h
  cases rx
  obtain ⟨t, rfl⟩ := ry
  obtain ⟨its, r, pl, hz⟩ := I.tuple hq
  obtain ⟨j, h1, h2, h3, h4, h5⟩ := n5 he
  obtain ⟨w, ew, rw'⟩ := r.get h2
  have hl := r.length
  have hn := iD
  have fin : EP X pins σ Q w s := ⟨z, H, I, rw', q⟩
  exact subscriptTail_builtinR (x := w) pl.typeIs slot_tuple_getitem.lookup
    (getItem_tuple (j := j) (Q := fun r s' => r = w /\ EP X pins σ Q r s') pl (by omega) (by omega) (by rw [List.size_toArray, <- hl]; exact h1) (by simpa using ew) ⟨rfl, fin⟩) hs
theorem yW : IxR X Av := by
  intro value slice pins s σ H x y v u Q I rx ry h hs
  obtain ⟨z, i, c, rfl, rfl, hz, he, q⟩ := h
  obtain ⟨t, rfl⟩ := rx
  obtain ⟨t', rfl⟩ := ry
  obtain ⟨j, h1, h2, h3, h4, h5⟩ := n5 he
  have hl : z.cps.toList.length = z.length := by simp [Str.length]
  rw [hl] at h1 h4 h5
  have hn := iD
  exact tail_any (typeIs_str s z t) slot_str_getitem.lookup (getItem_str (c := c) (by
    have e1 : decide (i < -(2 ^ 63 : Int)) = false := decide_eq_false (by omega)
    have e2 : decide (i ≥ 2 ^ 63) = false := decide_eq_false (by omega)
    rw [e1, e2, Bool.or_false]) (by rw [h1]; simpa using h2) ⟨.str ⟨#[c]⟩, H, I.tok _, ⟨_, rfl⟩, q⟩) hs
noncomputable def rIx (K : PySem.W.Frag) : R2 := fun x y H Q => zS K x y H Q \/ zZ K x y H Q \/ Av x y H Q
theorem aT : IxR X (rIx X.K) := vy.or (zD.or yW)
theorem qp (its : List Value) (n j : Nat) (u : Value) : Obj.mapSeq (·.setIfInBounds j u) { cls := .type "list", data := .seq its.toArray n } = { cls := .type "list", data := .seq (its.set j u).toArray n } := by
  simp [Obj.mapSeq]
theorem Inv.lst {pins : List (Addr × Obj)} {σ : St} {H : Hp} {s : Shared} {p : Addr} {xs : List V} (I : Inv X pins σ H s) (h : H p = some (.lst xs)) :
    ∃ (its : List Value) (n : Nat), Vals xs its /\ s.heap.get? p = some { cls := .type "list", data := .seq its.toArray n } /\ xs.length <= sizeLine := by
  obtain ⟨z, its, n, r, e⟩ := I.hok p _ h
  exact ⟨its, n, r, e, z⟩
theorem Inv.yE {pins : List (Addr × Obj)} {σ : St} {H : Hp} {s : Shared} {p : Addr} {xs ys : List V} {its its' : List Value} {n n' : Nat} {f : Obj -> Obj} (I : Inv X pins σ H s) (h : H p = some (.lst xs))
    (ho : s.heap.get? p = some { cls := .type "list", data := .seq its.toArray n }) (hf : f { cls := .type "list", data := .seq its.toArray n } = { cls := .type "list", data := .seq its'.toArray n' }) (r : Vals ys its') (hz : ys.length <= sizeLine) (t : Nat) :
    Inv X pins σ (upd H p (.lst ys)) { s with heap := s.heap.update p f, toks := t } := by
  have e : (s.heap.update p f).get? p = some { cls := .type "list", data := .seq its'.toArray n' } := by
    rw [Heap.get?_update_self f ho (by rw [hf] <;> rfl), hf]
  refine I.write (x := p) (e := p) (by rw [h]; trivial) (.inl rfl) (fun b u hb q => (Heap.get?_update_other _ _ (Ne.symm hb)).trans q) ⟨_, e⟩ ?_
  exact ⟨hz, its', n', r, e⟩
noncomputable def xH : V -> V -> V -> Hp -> (Hp -> Prop) -> Prop := fun o i v H Q => ∃ p xs k j, o = .ref p /\ i = .int k /\ H p = some (.lst xs) /\ ixN xs.length k = some j /\ Q (upd H p (.lst (xs.set j v)))
theorem set_list : ye X xH := by
  intro pins s σ H o i v ov iv u Q I ro ri rv h
  obtain ⟨p, xs, k, j, rfl, rfl, hp, hj, q⟩ := h
  cases ro
  obtain ⟨t, rfl⟩ := ri
  obtain ⟨its, n, r, ho, hz⟩ := I.lst hp
  obtain ⟨h1, h2, h3, h4⟩ := qK hj
  have hl := r.length
  have hn := iD
  have I' : Inv X pins σ (upd H p (.lst (xs.set j v))) { s with heap := s.heap.update p (Obj.mapSeq (·.setIfInBounds j u)) } :=
    I.yE hp ho (qp its n j u) (r.set rv j) (by rw [List.length_set]; exact hz) s.toks
  by_cases h0 : 0 <= k
  · have hk : k.toNat = j := by
      rw [seqIndex_of h0 h4] at h1
      exact Option.some.inj h1
    exact PySem.W.ki_setAt ho h0 (by omega) (by rw [List.size_toArray, <- hl]; exact h4) (by rw [hk]; exact ⟨_, I', q⟩)
  · have hk : (k + (its.toArray.size : Int)).toNat = j := by
      rw [seqIndex_neg (by omega) h3] at h1
      rw [List.size_toArray, <- hl]
      exact Option.some.inj h1
    exact PySem.W.ki_setBack ho (by omega) (by rw [List.size_toArray, <- hl]; exact h3) (by omega) (by rw [hk]; exact ⟨_, I', q⟩)
theorem nQ (lo hi : Option Int) (n : Nat) : (sliceBounds lo hi none n).1 = ((HT.sIx n 0 lo : Nat) : Int) /\ (sliceBounds lo hi none n).2.1 = ((HT.sIx n n hi : Nat) : Int) /\ (sliceBounds lo hi none n).2.2 = 1 := by
  refine ⟨?_, ?_, rfl⟩
  · cases lo with
    | none => simp [sliceBounds, HT.sIx]
    | some i =>
      simp only [sliceBounds, HT.sIx, Option.getD_none, show (1 : Int) > 0 by decide, if_true]
      by_cases h : i < 0
      · simp only [h, if_true] <;> omega
      · simp only [h, if_false] <;> omega
  · cases hi with
    | none => simp [sliceBounds, HT.sIx]
    | some i =>
      simp only [sliceBounds, HT.sIx, Option.getD_none, show (1 : Int) > 0 by decide, if_true]
      by_cases h : i < 0
      · simp only [h, if_true] <;> omega
      · simp only [h, if_false] <;> omega
theorem lA (its : List Value) (lo hi : Option Int) : slicePick its.toArray lo hi none = ((its.drop (HT.sIx its.length 0 lo)).take (HT.sIx its.length its.length hi - HT.sIx its.length 0 lo)).toArray := by
  obtain ⟨h1, h2, h3⟩ := nQ lo hi its.toArray.size
  unfold slicePick
  rw [h1, h2, h3]
  simp only [sliceRange_one, pick_run, List.size_toArray] <;> rfl
noncomputable def BM (K : PySem.W.Frag) : V -> Option Int -> Option Int -> Hp -> VK -> Prop := fun x lo hi H Q => ∃ a xs, x = .ref a /\ SqL K H a xs /\ ∀ p, H p = none -> Q (.ref p) (upd H p (.lst (lN xs lo hi)))
theorem wz : SlR X (BM X.K) := by
  intro pins s σ H x v vl vu lo hi sl Q I rx hs pl pu h
  obtain ⟨a, xs, rfl, hx, q⟩ := h
  cases rx
  obtain ⟨its, r, ht, hz⟩ := I.list hx
  have hlen := r.length
  refine ⟨"list", _, slot_list_getitem.lookup, ht.isList.typeIs, ?_⟩
  refine wpAny_getItem_list_slice ht.isList hs pl pu .none (by simp) ?_ (by rw [List.size_toArray] <;> omega)
  rw [lA, <- hlen]
  refine ⟨.ref s.heap.objs.size, _, I.laid (t' := s.toks) (o := .lst (lN xs lo hi)) (fun b ob q => Heap.get?_push_of_some _ q) (Nat.le_refl _) ?_, rfl, q _ (I.hok.fresh (Nat.le_refl _))⟩
  exact ⟨Nat.le_trans (jW xs lo hi) hz, _, 0, (r.drop (HT.sIx xs.length 0 lo)).take (HT.sIx xs.length xs.length hi - HT.sIx xs.length 0 lo), Heap.get?_push_size _ rfl⟩
noncomputable def ij : V -> Bool
  | .non => true
  | .bl _ => true
  | .int _ => true
  | .str _ => true
  | _ => false
noncomputable def eqV : V -> V -> Bool
  | .non, .non => true
  | .bl a, .bl b => a == b
  | .bl a, .int b => (if a then 1 else 0) == b
  | .int a, .bl b => a == (if b then 1 else 0)
  | .int a, .int b => a == b
  | .str a, .str b => a == b
  | _, _ => false
theorem x8 {A : Around} {s : Shared} {y x : V} {u v : Value} (ry : RelV y u) (rx : RelV x v) (fy : ij y = true) (fx : ij x = true) : SeqAt.EqAt A s u v (eqV y x) := by
  cases y with
  | non =>
    cases ry
    cases x with
    | non => cases rx; exact SeqAt.EqAt.same _
    | bl b => cases rx; exact SeqAt.EqAt.none_bool b
    | int b => obtain ⟨t, rfl⟩ := rx; exact SeqAt.EqAt.none_int b t
    | str b => obtain ⟨t, rfl⟩ := rx; exact SeqAt.EqAt.none_str b t
    | _ => exact absurd (show false = true from fx) Bool.false_ne_true
  | bl a =>
    cases ry
    cases x with
    | non => cases rx; exact SeqAt.EqAt.bool_none a
    | bl b => cases rx; exact SeqAt.EqAt.bool_bool a b
    | int b => obtain ⟨t, rfl⟩ := rx; exact SeqAt.EqAt.bool_int a b t
    | str b => obtain ⟨t, rfl⟩ := rx; exact SeqAt.EqAt.bool_str a b t
    | _ => exact absurd (show false = true from fx) Bool.false_ne_true
  | int a =>
    obtain ⟨t', rfl⟩ := ry
    cases x with
    | non => cases rx; exact SeqAt.EqAt.int_none a t'
    | bl b => cases rx; exact SeqAt.EqAt.int_bool a t' b
    | int b => obtain ⟨t, rfl⟩ := rx; exact SeqAt.EqAt.int_int a t' b t
    | str b => obtain ⟨t, rfl⟩ := rx; exact SeqAt.EqAt.int_str a t' b t
    | _ => exact absurd (show false = true from fx) Bool.false_ne_true
  | str a =>
    obtain ⟨t', rfl⟩ := ry
    cases x with
    | non => cases rx; exact SeqAt.EqAt.str_none a t'
    | bl b => cases rx; exact SeqAt.EqAt.str_bool a t' b
    | int b => obtain ⟨t, rfl⟩ := rx; exact SeqAt.EqAt.str_int a t' b t
    | str b => obtain ⟨t, rfl⟩ := rx; exact SeqAt.EqAt.str_str a t' b t
    | _ => exact absurd (show false = true from fx) Bool.false_ne_true
  | _ => exact absurd (show false = true from fy) Bool.false_ne_true
noncomputable def eqU (x : V) (u : Value) : Bool := match u with
  | .none => eqV .non x
  | .bool b => eqV (.bl b) x
  | .int i _ => eqV (.int i) x
  | .str z _ => eqV (.str z) x
  | _ => false
theorem vh {x y : V} {u : Value} (r : RelV y u) (f : ij y = true) : eqU x u = eqV y x := by
  cases y with
  | non => cases r; rfl
  | bl b => cases r; rfl
  | int i => obtain ⟨t, rfl⟩ := r; rfl
  | str z => obtain ⟨t, rfl⟩ := r; rfl
  | _ => exact absurd (show false = true from f) Bool.false_ne_true
theorem iN {x : V} : ∀ {xs : List V} {us : List Value}, Vals xs us -> xs.all ij = true -> us.any (eqU x) = xs.any fun y => eqV y x
  | _, _, .nil, _ => rfl
  | y :: xs, u :: us, .cons r t, f => by
    rw [List.all_cons, Bool.and_eq_true] at f
    rw [List.any_cons, List.any_cons, vh r f.1, iN t f.2]
theorem gM {A : Around} {s : Shared} {x : V} {v : Value} (rx : RelV x v) (fx : ij x = true) : ∀ {xs : List V} {us : List Value}, Vals xs us -> xs.all ij = true -> ∀ u ∈ us, SeqAt.EqAt A s u v (eqU x u)
  | _, _, .nil, _ => fun u hu => by cases hu
  | y :: xs, u :: us, .cons r t, f => fun u' hu => by
    rw [List.all_cons, Bool.and_eq_true] at f
    rcases List.mem_cons.mp hu with rfl | hu
    · rw [vh r f.1]; exact x8 r rx f.1 fx
    · exact gM rx fx t f.2 u' hu
noncomputable def inV (x : V) (xs : List V) : Bool := xs.any fun y => eqV y x
noncomputable def rIn (K : PySem.W.Frag) (neg : Bool) : R2 := fun x y H Q => ∃ p xs, y = .ref p /\ (SqL K H p xs \/ SqT K H p xs) /\ ij x = true /\ xs.all ij = true /\ Q (.bl (if neg then !inV x xs else inV x xs)) H
theorem rS : OpR X (compareOp .In) (rIn X.K false) := by
  intro pins s σ H x y v u Q I rx ry h
  obtain ⟨p, xs, rfl, hq, fx, fs, q⟩ := h
  cases ry
  rcases hq with hq | hq
  · obtain ⟨its, r, pl, hz⟩ := I.list hq
    refine SeqAt.in_listAt (eqU x) pl.isList (fun w hw => gM rx fx r fs w (by simpa using hw)) ⟨.bl _, H, I, rfl, ?_⟩
    rw [show its.toArray.any (eqU x) = its.any (eqU x) by simp, iN r fs]
    exact q
  · obtain ⟨its, r, pl, hz⟩ := I.tuple hq
    refine SeqAt.in_tupleAt (eqU x) pl (fun w hw => gM rx fx r fs w (by simpa using hw)) ⟨.bl _, H, I, rfl, ?_⟩
    rw [show its.toArray.any (eqU x) = its.any (eqU x) by simp, iN r fs]
    exact q
theorem nH : OpR X (compareOp .NotIn) (rIn X.K true) := by
  intro pins s σ H x y v u Q I rx ry h
  obtain ⟨p, xs, rfl, hq, fx, fs, q⟩ := h
  cases ry
  rcases hq with hq | hq
  · obtain ⟨its, r, pl, hz⟩ := I.list hq
    refine SeqAt.notIn_listAt (eqU x) pl.isList (fun w hw => gM rx fx r fs w (by simpa using hw)) ⟨.bl _, H, I, rfl, ?_⟩
    rw [show its.toArray.any (eqU x) = its.any (eqU x) by simp, iN r fs]
    exact q
  · obtain ⟨its, r, pl, hz⟩ := I.tuple hq
    refine SeqAt.notIn_tupleAt (eqU x) pl (fun w hw => gM rx fx r fs w (by simpa using hw)) ⟨.bl _, H, I, rfl, ?_⟩
    rw [show its.toArray.any (eqU x) = its.any (eqU x) by simp, iN r fs]
    exact q
theorem m9 : bL X (.builtin "len") (fun xs H Q => ∃ p ys, xs = [.ref p] /\ (SqL X.K H p ys \/ SqT X.K H p ys) /\ Q (.int ys.length) H) := by
  intro pins s σ H xs us Q I r h
  obtain ⟨p, ys, rfl, hq, q⟩ := h
  obtain ⟨u, rfl, rx⟩ := vals1 r
  cases rx
  have hn := iD
  rcases hq with hq | hq
  · obtain ⟨its, r', pl, hz⟩ := I.list hq
    have hlen := r'.length
    exact Calls.call_len_list pl.isList (by simp only [List.size_toArray] <;> omega) ⟨.int ys.length, H, I.tok _, ⟨s.toks + 1, by rw [List.size_toArray, hlen]⟩, q⟩
  · obtain ⟨its, r', pl, hz⟩ := I.tuple hq
    have hlen := r'.length
    exact len_tuple pl (by simp only [List.size_toArray] <;> omega) ⟨.int ys.length, H, I.tok _, ⟨s.toks + 1, by rw [List.size_toArray, hlen]⟩, q⟩
theorem nh : bL X (.builtin "len") (fun xs H Q => ∃ z, xs = [.str z] /\ z.length <= sizeLine /\ Q (.int z.length) H) := by
  intro pins s σ H xs us Q I r h
  obtain ⟨z, rfl, hz, q⟩ := h
  obtain ⟨u, rfl, t, rfl⟩ := vals1 r
  have hn := iD
  exact len_str (by omega) ⟨.int z.length, H, I.tok _, ⟨_, rfl⟩, q⟩
theorem bL.or {f : Value} {r r' : List V -> Hp -> VK -> Prop} (h : bL X f r) (h' : bL X f r') : bL X f (fun xs H Q => r xs H Q \/ r' xs H Q) := by
  intro pins s σ H xs us Q I rs q
  rcases q with q | q
  · exact h pins s σ H xs us Q I rs q
  · exact h' pins s σ H xs us Q I rs q
noncomputable def tyV (K : PySem.W.Frag) (T : String) (x : V) (H : Hp) : Prop := match x with
  | .str _ => T = "str"
  | .int _ => T = "int"
  | .ref p => (T = "list" /\ ∃ xs, SqL K H p xs) \/ (T = "tuple" /\ ∃ o, K.lookup p = some o /\ o.cls = .type "tuple" /\ o.dict = none) ∨
      (T = "dict" /\ ((∃ kvs, H p = some (.dK kvs)) \/ ∃ kvs, H p = some (.dT kvs))) \/ (T = "set" /\ ∃ S n, H p = some (.set S n)) \/ (T = "tuple" /\ ∃ xs, H p = some (.tup xs))
  | _ => False
theorem yH {pins : List (Addr × Obj)} {σ : St} {H : Hp} {s : Shared} {T : String} {x : V} {v : Value} (I : Inv X pins σ H s) (r : RelV x v) (ty : tyV X.K T x H) :
    s.TypeIs v T /\ ∀ a, v = .ref a -> ∃ ob, s.heap.get? a = some ob /\ ob.dict = none := by
  cases x with
  | str z =>
    obtain ⟨t, rfl⟩ := r
    cases (show T = "str" from ty)
    exact ⟨typeIs_str s z t, fun _ e => nomatch e⟩
  | int i =>
    obtain ⟨t, rfl⟩ := r
    cases (show T = "int" from ty)
    exact ⟨typeIs_int s i t, fun _ e => nomatch e⟩
  | ref p =>
    cases r
    rcases ty with ⟨rfl, xs, hq⟩ | ⟨rfl, o, hk, hc, hd⟩ | ⟨rfl, hk⟩ | ⟨rfl, S, n, hk⟩ | ⟨rfl, xs, hk⟩
    · obtain ⟨its, _, pl, _⟩ := I.list hq
      refine ⟨pl.isList.typeIs, fun a e => ?_⟩
      cases e
      obtain ⟨o, n, e, c, hd, _⟩ := pl
      exact ⟨o, e, hd⟩
    · refine ⟨⟨o, I.kIn p o hk, hc⟩, fun a e => ?_⟩
      cases e
      exact ⟨o, I.kIn _ o hk, hd⟩
    · have z : ∃ o, s.heap.get? p = some o /\ o.ExactDict := by
        rcases hk with ⟨kvs, hk⟩ | ⟨kvs, hk⟩
        · obtain ⟨_, _, _, _, o, _, _, e, ex, _⟩ := I.hok p _ hk
          exact ⟨o, e, ex⟩
        · obtain ⟨_, _, _, _, o, _, _, e, ex, _⟩ := I.hok p _ hk
          exact ⟨o, e, ex⟩
      obtain ⟨o, e, ex⟩ := z
      refine ⟨⟨o, e, ex.1⟩, fun a e2 => ?_⟩
      cases e2
      exact ⟨o, e, ex.2.1⟩
    · obtain ⟨o, _, _, _, e, ex, _⟩ := I.hok p _ hk
      refine ⟨⟨o, e, ex.1⟩, fun a e2 => ?_⟩
      cases e2
      exact ⟨o, e, ex.2.1⟩
    · obtain ⟨_, _, _, o, e, ⟨c, _⟩, hd⟩ := I.hok p _ hk
      refine ⟨⟨o, e, c⟩, fun a e2 => ?_⟩
      cases e2
      exact ⟨o, e, hd⟩
  | _ => exact False.elim ty
noncomputable def tBM (K : PySem.W.Frag) (T : String) (r : V -> List V -> Hp -> VK -> Prop) (to : TE) (t : TA) : TE := fun σ H Q => to σ H fun x H1 => tyV K T x H1 /\ t σ H1 fun xs H2 => r x xs H2 Q
variable {o e : Expr} {es : List Expr} {to : TE} {t : TA} {name : Str} {apos cpos : Pos} {T id : String} {r : V -> List V -> Hp -> VK -> Prop}
theorem AK (pa : PlainAttrs T) (slot : Slot T name id) (hty : typeOf (.builtin id) = pure (.type "method_descriptor")) (hm : MtR X id r) (ho : PE X o to) (ha : PA X (e :: es) t)
    (hbase : attributeBase o name X.env (eval o X.env) = eval o X.env := by rfl)
    (hfew : ((backTo cpos (starEach (e :: es) X.env)).all (fun x => !x.1) && (backToKw cpos (keywordEach [] X.env)).all (fun x => x.1.isSome)
      && decide ((e :: es).length + ([] : List Keyword).length + (if ([] : List Keyword).isEmpty then 0 else 1) < 30)) = true := by rfl)
    (hline : (apos.endLine == cpos.line) = true := by rfl) (hs : starEach (e :: es) X.env = (false, eval e X.env) :: starEach es X.env := by rfl) (hplain : (backTo cpos (starEach es X.env)).any (·.1) = false := by rfl) :
    PE X (.Call (.Attribute o name apos) (e :: es) [] cpos) (tBM X.K T r to t) := by
  intro pins s σ H Q I h
  refine wpAny_Call_method_late hbase hfew hline rfl (thn (ho pins s σ H _ I h) fun v s1 ⟨x, H1, I1, r1, ty, q1⟩ => ?_)
  obtain ⟨h1, h2⟩ := yH I1 r1 ty
  refine ⟨T, id, pa, slot, hty, h1, h2, ?_⟩
  have hA := ha cpos pins s1 σ H1 _ I1 q1
  rw [hs] at hA ⊢
  refine Calls.callWith_builtin (by show (false || (backTo cpos (starEach es X.env)).any (·.1)) = false; rw [hplain] <;> rfl) (Calls.evalArgs_plain ?_)
  exact thn hA fun us s2 ⟨vs, H2, I2, r2, q2⟩ => hm pins s2 σ H2 x vs v us Q I2 r1 r2 q2
/- xs.append(e), list.index on a module's tuple .. are MtR facts of 06m -/
end
noncomputable def MtM (X : Cx) (id : String) (r : V -> List V -> Hp -> VK -> Prop) : Prop :=
  ∀ (pins : List (Addr × Obj)) (s : Shared) (σ : St) (H : Hp) (x : V) (xs : List V) (v : Value) (us : List Value) (Q : VK), Inv X pins σ H s -> RelV x v -> Vals xs us -> r x xs H Q →
    wpAny (model X.prog X.w) X.A (call (.builtin id) (v :: us)) (EP X pins σ Q) X.xe s
theorem Vals.one : ∀ {x : V} {us : List Value}, Vals [x] us -> ∃ u, us = [u] /\ RelV x u
  | _, _, .cons r .nil => ⟨_, rfl, r⟩
theorem Vals.rep {xs : List V} {us : List Value} (h : Vals xs us) : ∀ k : Nat, Vals (List.replicate k xs).flatten (List.replicate k us).flatten
  | 0 => .nil
  | k + 1 => by
    rw [List.replicate_succ, List.replicate_succ, List.flatten_cons, List.flatten_cons]
    exact Vals.append h (Vals.rep h k)
theorem foldl_rep (its : List Value) : ∀ (k : Nat) (acc : List Value),
    List.foldl (fun x1 x2 => x1 ++ x2) acc.toArray (List.replicate k its.toArray) = (acc ++ (List.replicate k its).flatten).toArray
  | 0, acc => by simp
  | k + 1, acc => by
    have e : acc.toArray ++ its.toArray = (acc ++ its).toArray := by simp
    have e2 : (acc ++ its) ++ (List.replicate k its).flatten = acc ++ (List.replicate (k + 1) its).flatten := by
      rw [List.replicate_succ, List.flatten_cons, List.append_assoc]
    rw [<- e2, <- foldl_rep its k (acc ++ its), <- e, List.replicate_succ, List.foldl_cons]
section
variable {X : Cx} {pins : List (Addr × Obj)} {σ : St} {H : Hp} {s : Shared} {l b : Addr} {xs ys zs : List V}
theorem Inv.xW {its its' : List Value} {n : Nat} {f : Array Value -> Array Value} {t' : Nat} (I : Inv X pins σ H s) (hH : H l = some (.lst xs))
    (e : s.heap.get? l = some { cls := .type "list", data := .seq its.toArray n }) (hf : f its.toArray = its'.toArray) (hv : Vals ys its') (hz : ys.length <= sizeLine) :
    Inv X pins σ (upd H l (.lst ys)) { s with heap := s.heap.update l (Obj.mapSeq f), toks := t' } := by
  have q := PySem.IsL.update e f
  rw [hf] at q
  refine I.write (x := l) (e := l) (by rw [hH]; exact trivial) (.inl rfl) (fun b' u hb hu => (Heap.get?_update_other s.heap (Obj.mapSeq f) (Ne.symm hb)).trans hu) ⟨_, q⟩ ?_
  exact ⟨hz, its', _, hv, q⟩
theorem Inv.vQ {its : List Value} {t' : Nat} (I : Inv X pins σ H s) (hv : Vals ys its) (hz : ys.length <= sizeLine) :
    Inv X pins σ (upd H s.heap.objs.size (.lst ys)) { s with heap := s.heap.push { cls := .type "list", data := .seq its.toArray }, toks := t' } :=
  I.laid (fun _ _ q => Heap.get?_push_of_some _ q) (Nat.le_refl _) ⟨hz, its, 0, hv, Heap.get?_push_size _ rfl⟩
theorem Inv.fresh (I : Inv X pins σ H s) : H s.heap.objs.size = none := I.hok.fresh (Nat.le_refl _)
theorem Inv.zG (I : Inv X pins σ H s) (hH : H l = some (.lst xs)) : xs.length <= sizeLine /\ ∃ (its : List Value) (n : Nat), Vals xs its /\ xs.length = its.length /\ s.heap.get? l = some { cls := .type "list", data := .seq its.toArray n } := by
  obtain ⟨z, its, n, r, e⟩ := I.hok l _ hH
  exact ⟨z, its, n, r, r.length, e⟩
theorem oB {n : Nat} (h : n <= sizeLine) : Builtin.List.listTooLong n = false := by
  unfold Builtin.List.listTooLong
  exact decide_eq_false (by omega)
end
section
variable {X : Cx}
noncomputable def wF : V -> List V -> Hp -> VK -> Prop := fun x vs H Q => ∃ l xs y, x = .ref l /\ vs = [y] /\ H l = some (.lst xs) /\ xs.length < sizeLine /\ Q .non (upd H l (.lst (xs ++ [y])))
theorem l0 : MtM X "list.append" wF := by
  intro pins s σ H x vs v us Q I rx rv h
  obtain ⟨l, xs, y, rfl, rfl, hH, hz, q⟩ := h
  cases rx
  obtain ⟨u, rfl, ru⟩ := rv.one
  obtain ⟨z, its, n, r, hl, e⟩ := I.zG hH
  refine call_meets F.slot_list_append ⟨_, e, rfl⟩ F.entry_list_append (F.args_list_append_2 _ _) (PySem.list_append l its.toArray n u (by rw [List.size_toArray]; omega)) ⟨e, ?_⟩
  refine ⟨.non, _, I.xW (its' := its ++ [u]) hH e (by simp) (r.append (.cons ru .nil)) ?_, rfl, q⟩
  rw [List.length_append, List.length_singleton]
  omega
theorem len_rep {α : Type} (xs : List α) (k : Nat) : (List.replicate k xs).flatten.length = k * xs.length := by
  induction k with
  | zero => simp
  | succ k ih => rw [List.replicate_succ, List.flatten_cons, List.length_append, ih, Nat.succ_mul, Nat.add_comm]
end
end L2
namespace Att
open PySem PySem.W PySem.Calls PyProof.Rows
theorem ka {P : Params} {h : Heap} : ∀ (ns : List Int) (vs : List Value), WellAll P h vs (ns.map WData.int) -> IntsAre vs ns := by
  intro ns
  induction ns with
  | nil =>
    intro vs w
    rw [List.map_nil] at w
    cases w
    exact .nil
  | cons n ns ih =>
    intro vs w
    rw [List.map_cons] at w
    cases w with
    | cons a b =>
      cases a
      exact .cons _ _ (ih _ b)
theorem rN {l : OpenLaw} {n : Nat} (hn : l.most = some n) {P : Params} {h : Heap} {args : List WData} {vals : List Value}
    (hpre : l.row.toRowW.claim.pre args = true) (hwl : WellAll P h vals args) :
    ∃ a vs ns, vals = [Value.ref a] /\ args = [WData.list (ns.map WData.int)] /\ h.get? a = some { cls := .type "list", data := .seq vs.toArray } /\ IntsAre vs ns /\ ns.length <= n := by
  have hsh : WShape.hasAll [] args [.list .int] = true := (pre_splitW hpre).1
  have hc : l.pre.holds [] { args := args } = true := (pre_splitW hpre).2
  obtain ⟨d, r, rfl, h1, h2⟩ := hasAllW_cons hsh
  obtain rfl := hasAllW_nil h2
  obtain ⟨xs, rfl, h3⟩ := hasW_list h1
  obtain ⟨ns, rfl⟩ := items_int h3
  have hlen : ns.length <= n := by
    unfold OpenLaw.pre at hc
    have h4 : (WTm.not (.lt (.lit (.int (n : Int))) (.len (.arg 0)))).holds [] { args := [.list (ns.map .int)] } = true := by
      have h4 := (holds_andW hc).1
      rw [hn] at h4
      exact h4
    have h5 := condW_of h4 (w_not (w_lt w_lit (w_len_list (w_arg rfl))))
    rw [List.length_map] at h5
    refine Nat.le_of_not_lt fun q => ?_
    have q' : (n : Int) < ((ns.length : Nat) : Int) := by omega
    first
      | (rw [decide_eq_true q'] at h5; exact absurd h5 (by decide))
      | (simp at h5; omega)
  cases hwl with
  | cons w1 w2 =>
    cases w2
    cases w1 with
    | list ho hall => exact ⟨_, _, ns, rfl, rfl, ho, ka ns _ hall, hlen⟩
theorem r9 (l : OpenLaw) (args : List WData) : l.row.toRowW.claim.post args (.bool true) args = true :=
  postW_of (r := l.row.toRowW) (X := (true == true))
    (show WShape.has [] (.bool true) .bool = true by first | rfl | decide | simp [WShape.has, WShape.arms, WShape.armsAll])
    (show (WTm.eq .res (.lit (.bool true))).value [] { args := args, res := some (.bool true), after := args } = some (.bool (true == true)) from w_eq_bool (w_res rfl) w_lit) rfl
theorem o_ {l : OpenLaw} {n : Nat} {q : Program} {loose : List Str} {XP : (Str -> Option Value) -> Heap -> Prop} {YP : World -> Heap -> Prop} {d : DefRec}
    (hn : l.most = some n) (hdf : d.params.defaults = [])
    (call : ∀ (w : World) (aQ s₁ : Shared) (mg mb : Str -> Option Value) (fa : Addr) (o : Obj) (pm cd doc : Value) (a : Addr) (vs : List Value) (ns : List Int),
      Ground q loose [] XP w aQ mg mb s₁.heap -> YP w s₁.heap →
      s₁.heap.get? fa = some o -> o.data = .func (docDef d.name d.params d.body d.scope pm cd doc) -> s₁.heap.CodeRec cd d.name -> mg d.name = some (.ref fa) →
      s₁.heap.get? a = some { cls := .type "list", data := .seq vs.toArray } -> IntsAre vs ns -> ns.length <= n -> s₁.gens = #[] →
      codeAny (model l.prog w) callerA (.call (.ref fa) ⟨[.ref a], []⟩) (fun r s' => r = .ok (.ret (.bool true)) /\ OldK s₁.heap s'.heap /\ s'.os = s₁.os /\ AllBare s'.gens) s₁) :
    WalkO q loose XP YP l.row.toRowW d [] (fun f vs => PySem.call f vs) := by
  intro w aQ s₁ mg mb G Y fa o pm cd doc dV kV ho hd hcd hD hmg hg args vals as hpre hlay hrd hwl hlo
  obtain rfl : dV = .none := Dflts.none hD hdf
  obtain rfl : kV = .none := Dflts.noKw hD
  obtain ⟨a, vs, ns, rfl, rfl, hobj, hints, hlen⟩ := rN hn hpre hwl
  refine enter_call (codeAny_mono (call w aQ s₁ mg mb fa o pm cd doc a vs ns G Y ho (fd_plain hd) hcd hmg hobj hints hlen hg) fun r s' hq => ?_)
  obtain ⟨rfl, h2, h3, h4⟩ := hq
  exact ⟨.inl ⟨.bool true, .bool true, [], rfl, fun _ => rfl, .bool true, r9 l _, fun _ => ⟨List.Pairwise.nil, fun _ hm => (nomatch hm)⟩⟩, h2, h3, h4⟩
end Att
namespace L2
open PySem PySem.Spec PyProof.Rows
theorem mz : ∀ {vs : List Value} {ns : List Int}, IntsAre vs ns -> Vals (ns.map V.int) vs
  | _, _, .nil => .nil
  | _, _, .cons n t h => .cons ⟨t, rfl⟩ (mz h)
noncomputable def wJ (H : Hp) : Prop := ∀ b, H b = none \/ ∃ o xs, H b = some (.frz o (.lst xs))
theorem tJ {P : Program} {w : World} {K : PySem.W.Frag} {mg mb : Str -> Option Value} {CX : CXT} {k : Nat} {fa a : Addr} {fd : FuncData} {x : Str} {sp : Sp} {s₁ : Shared} {vs : List Value} {ns : List Int}
    (KX : K.In s₁.heap) (hns : s₁.heap.Ns mainGlobals mg) (hb : s₁.heap.Ns builtinsNs mb) (hbb : ∀ x : Str, x ≠ "__name__" -> mb x = bootBuiltins x) (hlim : s₁.heap.NoLimit) (hg : s₁.gens = #[])
    (ha : s₁.heap.get? a = some { cls := .type "list", data := .seq vs.toArray }) (hi : IntsAre vs ns) (hl : ns.length <= sizeLine) (hr : fG k callerA)
    (F : ∀ base : Heap, K.In base -> base.Ns mainGlobals mg -> eC P w K mg base CX k fa fd [x] sp) (hbind : ∀ (s : Shared) (u : Value), BindsTo s fd ⟨[u], []⟩ [(x, u)])
    (hsp : ∀ H : Hp, wJ H -> SqL K H a (ns.map V.int) -> sp [.ref a] H (fun v _ => v = .bl true) fun _ _ _ => False)
    (hCX : ∀ H e s', CX [] H s₁ (fun _ _ _ => False) e s' -> False) :
    codeAny (model P w) callerA (.call (.ref fa) ⟨[.ref a], []⟩) (fun r s' => r = .ok (.ret (.bool true)) /\ OldK s₁.heap s'.heap /\ s'.os = s₁.os /\ AllBare s'.gens) s₁ := by
  have rv := mz hi
  have lenV := hi.length
  -- from an abstract heap in which nothing but the script may be tracked
  have core : ∀ H : Hp, wJ H -> SqL K H a (ns.map V.int) -> HOk P w H s₁.heap -> (∀ b, H b ≠ none -> b = a) -> (H a ≠ none -> K.lookup a = none) →
      codeAny (model P w) callerA (.call (.ref fa) ⟨[.ref a], []⟩) (fun r s' => r = .ok (.ret (.bool true)) /\ OldK s₁.heap s'.heap /\ s'.os = s₁.os /\ AllBare s'.gens) s₁ := by
    intro H hO hS hok hA hK
    have base_of : ∀ {b : Addr} {o : Obj}, s₁.heap.get? b = some o -> H b = none -> (nK s₁.heap H).get? b = some o := fun e n => uv e n
    have noA : ∀ {b : Addr} {o : Obj} {es : Array DictEntry} {ep : Nat}, s₁.heap.get? b = some o -> o.data = .dict es ep -> H b = none := fun {b o es ep} e d => by
      cases q : H b with
      | none => rfl
      | some u =>
        have e' : b = a := hA b (by rw [q]; simp)
        subst e'
        rw [ha] at e; cases e
        have d' : Data.seq vs.toArray _ = Data.dict es ep := d
        cases d'
    have nsK : ∀ {b : Addr} {m : Str -> Option Value}, s₁.heap.Ns b m -> (nK s₁.heap H).Ns b m := fun {b m} ⟨o, es, ep, e, d, r⟩ => ⟨o, es, ep, base_of e (noA e d), d, r⟩
    have hKb : K.In (nK s₁.heap H) := fun b o e => base_of (KX b o e) (by
      cases q : H b with
      | none => rfl
      | some u =>
        have e' : b = a := hA b (by rw [q]; simp)
        subst e'
        rw [hK (by rw [q]; simp)] at e; cases e)
    have hM : Mod K mg (nK s₁.heap H) := ⟨hKb, nsK hns, ⟨mb, nsK hb, hbb⟩, let ⟨mc, h1, h2⟩ := hlim; ⟨mc, nsK h1, h2⟩⟩
    have e0 : xh P w K mg (nK s₁.heap H) callerA [] s₁ H := ⟨rfl, hM, fun b o e => vZ e, Nat.le_of_eq (sf _ _), trivial, fun b hb => absurd (show b ∈ ([] : List Addr) from hb) (by simp), hok, .of_eq hg⟩
    refine codeAny_mono ((F _ hKb (nsK hns)).run callerA [] s₁ H ⟨[.ref a], []⟩ [.ref a] [.ref a] _ _ hr e0 (hbind s₁ (.ref a)) (.cons rfl .nil) (hsp H hO hS)) fun r s' h => ?_
    cases r with
    | error e => exact (hCX H e s' h).elim
    | ok fl =>
      cases fl with
      | next => exact False.elim h
      | brk => exact False.elim h
      | cont => exact False.elim h
      | ret u =>
        obtain ⟨v, H', os, bare, un, hok', r', q⟩ := h
        have q' : v = .bl true := q
        subst q'
        obtain rfl : u = Value.bool true := r'
        refine ⟨rfl, OldK.of_keep fun b o e => ?_, os, bare⟩
        cases q : H b with
        | none => exact un.keep b o e q (by intro z; exact absurd (show b ∈ ([] : List Addr) from z) (by simp)) (by simp)
        | some u =>
          rcases hO b with z | ⟨ob, xs, z⟩
          · rw [q] at z; cases z
          · have z2 := un.la b ob _ z
            obtain ⟨e1, _⟩ := hok b _ z
            obtain ⟨e2, _⟩ := hok' b _ z2
            rw [e] at e1; cases e1
            exact e2
  cases hk : K.lookup a with
  | some o =>
    -- the script is one of the module's own objects
    have e := KX a o hk
    rw [ha] at e
    cases e
    refine core (fun _ => none) (fun _ => .inl rfl) (.inr ⟨_, vs.toArray, _, hk, rfl, rfl, rfl, by rw [List.size_toArray, lenV]; exact hl, by simpa using rv⟩) (fun b u z => by have z' : (none : Option HO) = some u := z; cases z') (fun b z => absurd rfl z) fun z => absurd rfl z
  | none =>
    refine core (fun b => if b = a then some (.frz { cls := .type "list", data := .seq vs.toArray } (.lst (ns.map V.int))) else none) (fun b => ?_) (.inl (.inr ⟨{ cls := .type "list", data := .seq vs.toArray }, if_pos rfl⟩)) (fun b u z => ?_) (fun b z => ?_) fun _ => hk
    · by_cases hb : b = a
      · exact .inr ⟨_, _, if_pos hb⟩
      · exact .inl (if_neg hb)
    · by_cases hb : b = a
      · have z' := (if_pos hb).symm.trans z
        cases z'
        subst hb
        exact ⟨ha, by rw [List.length_map]; exact hl, vs, _, rv, ha⟩
      · have z' := (if_neg hb).symm.trans z
        cases z'
    · by_cases hb : b = a
      · exact hb
      · exact absurd (if_neg hb) z
noncomputable abbrev KOf {K : PySem.W.Frag} {h : Heap} (_ : K.In h) : PySem.W.Frag := K
theorem wa {l : PySem.W.OpenLaw} {n k : Nat} {q : Program} {loose : List Str} {XP : (Str -> Option Value) -> Heap -> Prop} {YP : World -> Heap -> Prop} {d : DefRec} {K : Params -> PySem.W.Frag} {CX : World -> CXT} {sp : World -> Sp} {x : Str}
    (hn : l.most = some n) (hn2 : n <= sizeLine) (hdf : d.params.defaults = []) (hr : fG k callerA)
    (hY : ∀ (w : World) (h : Heap), YP w h -> (K w.params).In h)
    (F : ∀ (w : World) (mg : Str -> Option Value) (fa : Addr) (h : Heap), (K w.params).In h -> h.Ns mainGlobals mg -> mg d.name = some (.ref fa) →
      ∃ fd : FuncData, (∀ (s : Shared) (u : Value), BindsTo s fd ⟨[u], []⟩ [(x, u)]) ∧
        ∀ base : Heap, (K w.params).In base -> base.Ns mainGlobals mg -> eC l.prog w (K w.params) mg base (CX w) k fa fd [x] (sp w))
    (hsp : ∀ (w : World) (H : Hp) (a : Addr) (ns : List Int), ns.length <= n -> wJ H -> SqL (K w.params) H a (ns.map V.int) -> sp w [.ref a] H (fun v _ => v = .bl true) fun _ _ _ => False)
    (hCX : ∀ (w : World) (H : Hp) (s : Shared) (e : Value) (s' : Shared), CX w [] H s (fun _ _ _ => False) e s' -> False) :
    PySem.W.WalkO q loose XP YP l.row.toRowW d [] (fun f vs => PySem.call f vs) := by
  refine Att.o_ hn hdf fun w aQ s₁ mg mb fa o pm cd doc a vs ns G Y ho hd hcd hmg hobj hints hlen hg => ?_
  have KX := hY w _ Y
  obtain ⟨fd, hb, hF⟩ := F w mg fa _ KX G.T.g hmg
  exact tJ KX G.T.g G.T.b G.T.builtins G.T.nolimit hg hobj hints (Nat.le_trans hlen hn2) hr hF hb (fun H hO hS => hsp w H a ns hlen hO hS) fun H e s' => hCX w H s₁ e s'
end L2
/- THE LAST THEOREM (shape; LID, My.* are yours):
   My.Adr: a structure of the addresses that your layer names (classes, functions); My.Txt K t: a structure (Prop) of the equations over K;
   My.txt_mk : {K} {implicit addresses ..} (e1 : nsIn K mainGlobals "law" = some (some (.ref f))) (e2 : K.lookup f = some ⟨oc, od, .func (fnOf "law" "law" params body scope dV kV doc pm an cdv ct), sl⟩) (e3 : codeIn K cdv "law" = true) .. : ∃ t, My.Txt K t
(the tactic k_is has no namespace: write k_is) -/
namespace L2
open PySem PySem.Spec PyProof.Rows
noncomputable def jg (s : Stmt) : Arguments := match s with
  | .FunctionDef _ a _ _ _ _ _ _ _ _ => a
  | _ => { posonlyargs := [], args := [], vararg := none, kwonlyargs := [], kw_defaults := [], kwarg := none, defaults := [] }
noncomputable def fP (s : Stmt) : List Stmt := match s with
  | .FunctionDef _ _ b _ _ _ _ _ _ _ => b
  | _ => []
noncomputable def ay (s : Stmt) : Scope := match s with
  | .FunctionDef _ _ _ _ _ _ sc _ _ _ => sc
  | _ => { kind := .function, names := [], isGenerator := false, isCoroutine := false }
noncomputable abbrev CX0 : CXT := fun _ _ _ _ _ _ => False
noncomputable abbrev E0 : XK := fun _ _ _ => False
theorem AV {X : Cx} : Passes CX0 X E0 := fun _ _ _ _ _ _ _ h => h.elim
structure Fun (K : PySem.W.Frag) (x qual : Str) (st : Stmt) (f : Addr) (fd : FuncData) : Prop where
  ex : ∃ (oc : Value) (od : Option Addr) (kV doc pm : Value) (an : Option Addr) (cdv ct : Value) (osl : Array (Option Value)),
    fd = PySem.W.fnOf x qual (jg st) (fP st) (ay st) .none kV doc pm an cdv ct /\ K.lookup f = some ⟨oc, od, .func fd, osl⟩ /\ PySem.W.codeIn K cdv qual = true
  kp : PySem.W.keepIn K (.ref f) = true
section
variable {P : Program} {w : World} {K : PySem.W.Frag} {mg : Str -> Option Value} {base : Heap}
theorem Fun.ok {x qual : Str} {st : Stmt} {f : Addr} {fd : FuncData} {N ps : List Str} {k : Nat} {sp : Sp} (F : Fun K x qual st f fd) (S : a_ N ps (ay st)) (len : ∀ vs H Q E, sp vs H Q E -> vs.length = ps.length)
    (hbody : ∀ (cdv : Value) (A : Around) (outer : List Env) (s : Shared) (H : Hp) (vs : List V) (Q : VK) (E : XK), fG k (A.deeper (envOfC qual (ay st) s.heap.objs.size f cdv)) -> sp vs H Q E →
      ∃ t, PSs (p9 CX0 P w K mg base N qual (ay st) f cdv A outer s H E).nox (fP st) t /\ t { nx := fun _ H' => Q .non H', rt := Q } (start N vs) H) : eC P w K mg base CX0 (k + 1) f fd ps sp := by
  obtain ⟨oc, od, kV, doc, pm, an, cdv, ct, osl, rfl, lk, hcd⟩ := F.ex
  refine Aa lk hcd S len fun A outer s H vs Q E hr hsp => ?_
  obtain ⟨t, h, q⟩ := hbody cdv A outer s H vs Q E hr hsp
  exact ⟨t, h.nox, q⟩
theorem Fun.binds {x qual : Str} {st : Stmt} {f : Addr} {fd : FuncData} {ps : List Str} (F : Fun K x qual st f fd)
    (h : ∀ (kV doc pm : Value) (an : Option Addr) (cdv ct : Value) (us : List Value), us.length = ps.length -> bindArgs (PySem.W.fnOf x qual (jg st) (fP st) (ay st) .none kV doc pm an cdv ct) ⟨us, []⟩ = pure (ps.zip us)) : Binds K fd ps [] := by
  obtain ⟨oc, od, kV, doc, pm, an, cdv, ct, osl, rfl, lk, hcd⟩ := F.ex
  exact .all (h kV doc pm an cdv ct)
theorem yQ {x qual : Str} {st : Stmt} {f : Addr} {oc : Value} {od an : Option Addr} {osl : Array (Option Value)} {kV doc pm cdv ct : Value} (l : K.lookup f = some ⟨oc, od, .func (PySem.W.fnOf x qual (jg st) (fP st) (ay st) .none kV doc pm an cdv ct), osl⟩)
    (c : PySem.W.codeIn K cdv qual = true) (k : PySem.W.keepIn K (.ref f) = true) : Fun K x qual st f (PySem.W.fnOf x qual (jg st) (fP st) (ay st) .none kV doc pm an cdv ct) := ⟨⟨oc, od, kV, doc, pm, an, cdv, ct, osl, rfl, l, c⟩, k⟩
end
noncomputable def PTs (X : Cx) (ifs : List Expr) (t : TT) : Prop :=
  ∀ (pins : List (Addr × Obj)) (s : Shared) (σ : St) (H : Hp) (Q : Bool -> Hp -> Prop), Inv X pins σ H s -> t σ H Q →
    wpAny (model X.prog X.w) X.A (forIn ifs true fun c r => if r = true then do let ok ← isTrue c X.env (eval c X.env); pure (ForInStep.yield ok) else pure (ForInStep.yield r)) (TP X pins σ Q) X.xe s
noncomputable def Ax : TT := fun _ H Q => Q true H
theorem v_ {X : Cx} : PTs X [] Ax := fun _ _ _ H _ I h => wpAny_tests_nil ⟨H, I, h⟩
theorem vv {X : Cx} {c : Expr} {t : TT} (h : PT X c t) : PTs X [c] t := fun pins s σ H Q I q => wpAny_tests_one (h pins s σ H Q I q)
theorem jU {prog : Program} {w : World} {A : Around} {R : Result -> Shared -> Prop} {s : Shared} {elt target iter : Expr} {ifs : List Expr} {scope : Scope} {pos : Pos} {it acc : Value} {env : Env} (I : Nat -> Shared -> Prop)
    (turn : ∀ n s, I n s -> wpAny (model prog w) A (pyNext it) (fun r s₁ => match r with
      | none => R (.ok .next) s₁
      | some v => wpAny (model prog w) A (letOwnedTupleGo target it v) (fun _ s₁ => wpAny (model prog w) A (assign target env v) (fun _ s₂ =>
          wpAny (model prog w) A (forIn ifs true fun c r => if r = true then do let ok ← isTrue c env (eval c env); pure (ForInStep.yield ok) else pure (ForInStep.yield r)) (fun ok s₃ =>
            if ok = true then wpAny (model prog w) A (eval elt env) (fun x s₄ =>
              wpAny (model prog w) A (call (.builtin "list.append") [acc, x]) (fun _ s₅ => ∃ m, m < n /\ I m s₅) (fun _ _ => False) s₄) (fun _ _ => False) s₃
            else ∃ m, m < n /\ I m s₃) (fun _ _ => False) s₂) (fun _ _ => False) s₁) (fun _ _ => False) s₁) (fun _ _ => False) s)
    (n : Nat) (h : I n s) :
    codeAny (model prog w) A (.compLoop (.ListComp elt [⟨target, iter, ifs, 0⟩] scope pos) 0 it acc env) R s := by
  refine codeAny_loop rfl I (fun n s hI => ?_) n h
  show wpAny _ A ((compTurn (.ListComp elt [⟨target, iter, ifs, 0⟩] scope pos) 0 it acc env).onRaise (fun x => do noteFrame x env; theTreesLotGoes x)) _ _ s
  refine wpAny_noted ?_
  rw [compTurn_list]
  refine wpAny_noRaise ?_
  refine wpAny_bind (wpAny_standAt (wpAny_bind (wpAny_mono (turn n s hI) (fun r s₁ h₁ => ?_) fun _ _ h' => h')))
  cases r with
  | none => exact wpAny_pure h₁
  | some v =>
    refine wpAny_bind (wpAny_mono h₁ (fun _ s₁' h₁' => ?_) fun _ _ h' => h')
    refine wpAny_bind (wpAny_mono h₁' (fun _ s₂ h₂ => wpAny_bind (wpAny_mono h₂ (fun ok s₃ h₃ => ?_) fun _ _ h' => h')) fun _ _ h' => h')
    cases ok with
    | false => exact wpAny_pure ⟨rfl, h₃⟩
    | true =>
      exact wpAny_bind (wpAny_bind (wpAny_mono h₃ (fun x s₄ h₄ => wpAny_bind (wpAny_mono h₄ (fun _ s₅ h₅ => wpAny_pure (wpAny_pure ⟨rfl, h₅⟩)) fun _ _ h' => h')) fun _ _ h' => h'))
noncomputable def ff (X : Cx) (scope : Scope) (cl : List (Str × Addr)) (C : Addr) (aQ : Shared) (bx : Hp) (fp : List Addr) (N' : List Str) : Cx :=
  { X with N := N', aQ := aQ, bx := bx, env := compEnvC scope cl C X.env, outer := X.stack, ex := fp, fn := fun _ => false, pn := [] }
theorem iE {env : Env} : ∀ (names : List (Str × NameKind)) (cs : List (Str × Addr)), (∀ y ∈ names, y.2 = .free -> ∃ a, env.cells.lookup y.1 = some a) -> (∀ x c, cs.lookup x = some c -> env.cells.lookup x = some c) →
    ∃ cl : List (Str × Addr), (forIn names cs fun (y : Str × NameKind) (r : List (Str × Addr)) => if (y.2 == NameKind.free) = true then do let a ← cellOf env y.1; pure (ForInStep.yield ((y.1, a) :: r)) else pure (ForInStep.yield r) : Sem (List (Str × Addr))) = pure cl ∧
      (∀ x c, cl.lookup x = some c -> env.cells.lookup x = some c) /\ (∀ x, ((x, NameKind.free) ∈ names \/ ∃ c, cs.lookup x = some c) -> ∃ c, cl.lookup x = some c)
  | [], cs, _, h => ⟨cs, rfl, h, fun x hx => by
      rcases hx with z | z
      · cases z
      · exact z⟩
  | (n, k) :: r, cs, hf, h => by
    by_cases hk : k = .free
    · subst hk
      obtain ⟨a, ha⟩ := hf (n, .free) (by simp) rfl
      obtain ⟨cl, e, h1, h2⟩ := iE r ((n, a) :: cs) (fun y hy => hf y (List.mem_cons_of_mem _ hy)) (fun x c q => by
        rw [List.lookup_cons] at q
        cases hx : x == n with
        | true =>
          rw [hx] at q
          have : x = n := by simpa using hx
          subst this
          cases q; exact ha
        | false => rw [hx] at q; exact h x c q)
      refine ⟨cl, ?_, h1, fun x hx => ?_⟩
      · rw [List.forIn_cons]
        have e0 : cellOf env n = pure a := by unfold cellOf; rw [ha]
        simp only [beq_self_eq_true, if_true, e0]
        exact e
      · have hc : ∀ z c, cs.lookup z = some c -> ∃ c, ((n, a) :: cs).lookup z = some c := fun z c q => by
          rw [List.lookup_cons]
          cases z == n with
          | true => exact ⟨a, rfl⟩
          | false => exact ⟨c, q⟩
        rcases hx with z | ⟨c, z⟩
        · rcases List.mem_cons.mp z with q | q
          · cases q
            exact h2 n (.inr ⟨a, by simp [List.lookup_cons]⟩)
          · exact h2 x (.inl q)
        · exact h2 x (.inr (hc x c z))
    · obtain ⟨cl, e, h1, h2⟩ := iE r cs (fun y hy => hf y (List.mem_cons_of_mem _ hy)) h
      have hb : (k == NameKind.free) = false := by simpa using hk
      refine ⟨cl, ?_, h1, fun x hx => ?_⟩
      · rw [List.forIn_cons]
        simp only [hb, Bool.false_eq_true, if_false]
        exact e
      · rcases hx with z | z
        · rcases List.mem_cons.mp z with q | q
          · cases q; exact absurd rfl hk
          · exact h2 x (.inl q)
        · exact h2 x (.inr z)
theorem ie {env : Env} {scope : Scope} (h : ∀ y ∈ scope.names, y.2 = .free -> ∃ a, env.cells.lookup y.1 = some a) :
    ∃ cl : List (Str × Addr), closureFor scope env = pure cl /\ (∀ x c, cl.lookup x = some c -> env.cells.lookup x = some c) /\ (∀ x, (x, NameKind.free) ∈ scope.names -> ∃ c, cl.lookup x = some c) := by
  obtain ⟨cl, e, h1, h2⟩ := iE (env := env) scope.names [] h (fun x c q => by cases q)
  refine ⟨cl, ?_, h1, fun x hx => h2 x (.inl hx)⟩
  exact Eq.trans (congrArg (fun t : Sem (List (Str × Addr)) => t >>= fun cs => pure cs) e) rfl
theorem lookup_mem {x : Str} {k : NameKind} : ∀ {names : List (Str × NameKind)}, names.lookup x = some k -> (x, k) ∈ names
  | [], h => by cases h
  | (n, j) :: r, h => by
    rw [List.lookup_cons] at h
    cases hx : x == n with
    | true =>
      rw [hx] at h
      have : x = n := by simpa using hx
      subst this
      cases h; simp
    | false => rw [hx] at h; exact List.mem_cons_of_mem _ (lookup_mem h)
theorem cO {env : Env} (hf : env.scope.kind = .function) : ∀ {names : List (Str × NameKind)} {x : Str}, names.lookup x = some .free -> env.kindOf x = some .cell →
    (names.map fun (n, k) => if (k == NameKind.free && env.scope.kind == .function && env.kindOf n == some .cell) then (n, NameKind.cell) else (n, k)).lookup x = some .cell
  | [], _, h, _ => by cases h
  | (n, k) :: r, x, h, hc => by
    have ih := @cO env hf r x
    show List.lookup x ((if (k == NameKind.free && env.scope.kind == .function && env.kindOf n == some .cell) = true then (n, NameKind.cell) else (n, k)) :: _) = _
    cases hx : x == n with
    | true =>
      have : x = n := by simpa using hx
      subst this
      simp only [List.lookup_cons, hx] at h
      cases h
      rw [if_pos (by simp [hf, hc])]
      simp [List.lookup_cons]
    | false =>
      simp only [List.lookup_cons, hx] at h
      by_cases hq : (k == NameKind.free && env.scope.kind == .function && env.kindOf n == some .cell) = true
      · rw [if_pos hq]; simp only [List.lookup_cons, hx]; exact ih h hc
      · rw [if_neg hq]; simp only [List.lookup_cons, hx]; exact ih h hc
theorem dk {env : Env} : ∀ {names : List (Str × NameKind)} {x : Str} {k : NameKind}, (names.map fun (n, k) => if (k == NameKind.free && env.scope.kind == .function && env.kindOf n == some .cell) then (n, NameKind.cell) else (n, k)).lookup x = some k →
    names.lookup x = some k \/ (names.lookup x = some .free /\ k = .cell)
  | [], _, _, h => by cases h
  | (n, j) :: r, x, k, h => by
    have ih := @dk env r x k
    have h' : List.lookup x ((if (j == NameKind.free && env.scope.kind == .function && env.kindOf n == some .cell) = true then (n, NameKind.cell) else (n, j)) :: (r.map fun (n, k) => if (k == NameKind.free && env.scope.kind == .function && env.kindOf n == some .cell) then (n, NameKind.cell) else (n, k))) = some k := h
    by_cases hq : (j == NameKind.free && env.scope.kind == .function && env.kindOf n == some .cell) = true
    · rw [if_pos hq] at h'
      have hj : j = .free := by
        have := Bool.and_eq_true_iff.mp (Bool.and_eq_true_iff.mp hq).1
        simpa using this.1
      simp only [List.lookup_cons] at h' ⊢
      cases hx : x == n with
      | true => rw [hx] at h'; cases h'; exact .inr ⟨by rw [hj], rfl⟩
      | false => rw [hx] at h'; exact ih h'
    · rw [if_neg hq] at h'
      simp only [List.lookup_cons] at h' ⊢
      cases hx : x == n with
      | true => rw [hx] at h'; cases h'; exact .inl rfl
      | false => rw [hx] at h'; exact ih h'
noncomputable def eS (ix : List Nat) (σ : St) : St := none :: ix.map fun i => (σ[i]?).join
noncomputable abbrev Ao (J : It) (tt : TT) (te : TE) (σ' : V -> St) (acc : Addr) (H1 : Hp) (Q : VK) : Prop :=
  ∃ W : Nat -> Nat -> List V -> Hp -> Prop, (∃ m, W 0 m [] (upd H1 acc (.lst []))) /\ ∀ i m ys H, W i m ys H →
    (J.stop i H /\ Q (.ref acc) H) \/ (J.go i H /\ ∀ x H', J.yld i H x H' -> tt (σ' x) H' fun b H2 => if b = true then te (σ' x) H2 fun y H3 =>
        H3 acc = some (.lst ys) /\ ys.length < sizeLine /\ ∃ m', m' < m /\ W (i + 1) m' (ys ++ [y]) (upd H3 acc (.lst (ys ++ [y])))
      else ∃ m', m' < m /\ W (i + 1) m' ys H2)
noncomputable def uh (wi : TI) (ix : List Nat) (tt : TT) (te : TE) : TE := fun σ H Q => wi σ H fun J H1 => ∀ acc, H1 acc = none -> Ao J tt te (fun x => (eS ix σ).set 0 (some x)) acc H1 Q
theorem HOk.sameBut {P : Program} {w : World} {H : Hp} {h h' : Heap} {C : Addr} (x : HOk P w H h) (hn : H C = none) (k : ∀ b u, b ≠ C -> h.get? b = some u -> h'.get? b = some u) : HOk P w H h' := fun b u e => by
  have nC : ∀ b u, H b = some u -> b ≠ C := fun b u e z => by rw [z, hn] at e; cases e
  refine (x b u e).n9 (fun c v hc q => k c v ?_ q) (fun _ q => q) fun _ _ q => q
  rcases hc with z | z
  · rw [z]; exact nC b u e
  · exact nC c _ z
section
variable {X : Cx}
theorem pG : bL X (.builtin "isinstance") (fun vs H Q => ∃ x t n b, vs = [x, .ty n] /\ iL X.K H x t /\ PySem.W.kitOne X.K t (.type n) = some b /\ Q (.bl b) H) := by
  intro pins s σ H xs us Q I r h
  obtain ⟨x, t, n, b, rfl, ty, e, q⟩ := h
  obtain ⟨u, w', rfl, r1, r2⟩ := vals2 r
  cases r2
  exact rL I r1 ty e fun tk => ⟨.bl b, H, I.tok tk, rfl, q⟩
theorem lW : bL X (.builtin "len") (fun vs H Q => ∃ p S n, vs = [.ref p] /\ H p = some (.set S n) /\ Q (.int n) H) := by
  intro pins s σ H xs us Q I r h
  obtain ⟨p, S, n, rfl, hH, q⟩ := h
  obtain ⟨u, rfl, rx⟩ := vals1 r
  cases rx
  obtain ⟨o, es, ep, tb, ho, hex, hd, hel, hmem, hsz, hfit, rfl⟩ := (show s.heap.SetOf (intKind X.prog X.w) p S n from I.hok p _ hH)
  have hb : (es.size : Int) < 2 ^ 63 := by unfold scanBound at hsz; omega
  exact PySem.call_len_set ho hex hd hfit hb ⟨.int es.size, H, I.tok _, ⟨_, rfl⟩, q⟩
theorem hW {prog : Program} {w : World} {A : Around} {E : Value -> Shared -> Prop} {s : Shared} {t sl : Addr} {items : Array Value} {vl vu : Value} {lo hi : Option Int} {Q : Value -> Shared -> Prop} (ht : IsTup s.heap t items) (hs : s.heap.IsSliceOf sl vl vu .none) (pl : IsPart vl lo) (pu : IsPart vu hi)
    (h1 : HT.sIx items.size 0 lo = 0) (h2 : HT.sIx items.size items.size hi = items.size) (h : Q (.ref t) s) : wpAny (model prog w) A (getItem (.ref t) (.ref sl)) Q E s := by
  obtain ⟨os, hos, hcs, hds⟩ := id hs
  have hTs : s.TypeIs (.ref sl) "slice" := ⟨os, hos, hcs⟩
  unfold getItem
  try with_reducible refine wpAny_holding ?_
  first | refine wpAny_bind (wpAny_pure ?_) | skip
  refine wpAny_bind (wpAny_sequenceKey ht.typeIs (by decide) ?_)
  refine wpAny_bind (wpAny_callSpecial?_slot (name := Str.ofString "__getitem__") ht.typeIs PyProof.Rows.slot_tuple_getitem (wpAny_call_entry PyProof.Rows.slot_tuple_getitem ht.typeIs entry_tuple_getitem ?_ (args_tuple_getitem _ _)))
  show wpAny _ _ (Builtin.Tuple.tupleItemsOf (.ref t) >>= _) _ _ s
  refine wpAny_bind (tupleItemsOf_ ht (wpAny_bind (wpAny_typeOf hTs ?_)))
  rw [if_pos (by decide)]
  refine wpAny_bind (HT.fI hs pl pu ?_)
  rw [h1, h2]
  show wpAny _ _ (if (((0 : Nat) : Int) == 0 && (1 : Int) == 1 && (items.size - 0) == items.size) = true then _ else _) _ _ s
  rw [if_pos (by simp)]
  show wpAny _ _ (Builtin.Tuple.tupleIsExact (.ref t) >>= _) _ _ s
  unfold Builtin.Tuple.tupleIsExact
  refine wpAny_bind (wpAny_bind (wpAny_typeOf ht.typeIs (wpAny_pure ?_)))
  show wpAny _ _ (if (Value.type "tuple" == Value.type "tuple") = true then _ else _) _ _ s
  rw [if_pos (by decide)]
  refine wpAny_bind (wpAny_rule ?_)
  first
    | exact wpAny_pure ⟨_, rfl, wpAny_pure h⟩
    | exact wpAny_bind (wpAny_pure (wpAny_pure ⟨_, rfl, wpAny_pure h⟩))
noncomputable def zR (K : PySem.W.Frag) : V -> Option Int -> Option Int -> Hp -> VK -> Prop := fun x lo hi H Q => ∃ a xs, x = .ref a /\ SqT K H a xs /\ HT.sIx xs.length 0 lo = 0 /\ HT.sIx xs.length xs.length hi = xs.length /\ Q (.ref a) H
theorem wq : SlR X (zR X.K) := by
  intro pins s σ H x v vl vu lo hi sl Q I rx hs pl pu h
  obtain ⟨a, xs, rfl, hx, h1, h2, q⟩ := h
  cases rx
  obtain ⟨its, r, ht, hz⟩ := I.tuple hx
  have hlen : its.toArray.size = xs.length := by rw [List.size_toArray]; exact r.length.symm
  refine ⟨"tuple", _, PyProof.Rows.slot_tuple_getitem.lookup, ht.typeIs, ?_⟩
  exact hW ht hs pl pu (by rw [hlen]; exact h1) (by rw [hlen]; exact h2) ⟨.ref a, H, I, rfl, q⟩
noncomputable def tX (K : PySem.W.Frag) : R2 := fun x y H Q => ∃ a b ys, x = .ref a /\ y = .ref b /\ SqT K H a [] /\ SqT K H b ys /\ Q (.ref b) H
theorem tK : OpR X (binaryOp .Add) (tX X.K) := by
  intro pins s σ H x y v u Q I rx ry h
  obtain ⟨a, b, ys, rfl, rfl, ha, hb, q⟩ := h
  cases rx
  cases ry
  obtain ⟨its, r1, p1, _⟩ := I.tuple ha
  obtain ⟨its2, r2, p2, _⟩ := I.tuple hb
  cases r1
  obtain ⟨⟨cls, dd, data, sl⟩, ho, hc, n, hd⟩ := id p1
  obtain ⟨⟨cls2, dd2, data2, sl2⟩, ho2, hc2, n2, hd2⟩ := id p2
  simp only at hc hd hc2 hd2
  subst hc hd hc2 hd2
  exact concat_meets ⟨_, ho, rfl⟩ ⟨_, ho2, rfl⟩ noFill_tuple_add seq_tuple_add PySem.F.slot_tuple_add PySem.F.entry_tuple_add (PySem.F.args_tuple_add_2 _ _)
    (tuple_addW0 a b _ _ n n2 dd dd2 sl sl2 (by simp)) ⟨ho, ho2, ⟨.ref b, H, I, rfl, q⟩⟩
end
open AutoSeq1 (wpAny_loadPart')
noncomputable def m4 (a : Addr) (lo hi st : Int) : HO := .ext fun h => ∃ t u v, h.get? a = some { cls := .type "range", data := .fields #[.int lo t, .int hi u, .int st v] }
noncomputable def o7 (lo st : Int) (n : Nat) : List Int := (List.range n).map fun (i : Nat) => lo + (i : Int) * st
theorem pI (lo st : Int) (n : Nat) : (o7 lo st n).length = n := by simp [o7]
theorem qB {lo st : Int} {n : Nat} {acc : Array Value} (h : ItemsOf (fun i v => ∃ t, v = .int (lo + i * st) t) acc n) : Vals ((o7 lo st n).map V.int) acc.toList := by
  obtain ⟨hs, hv⟩ := h
  have key : ∀ (l : List Value) (k : Nat), (∀ j v, l[j]? = some v -> ∃ t, v = Value.int (lo + ((k + j : Nat) : Int) * st) t) -> Vals (((List.range' k l.length).map fun (i : Nat) => lo + (i : Int) * st).map V.int) l := by
    intro l
    induction l with
    | nil => intro k _; exact .nil
    | cons a r ih =>
      intro k hk
      rw [List.length_cons, List.range'_succ, List.map_cons, List.map_cons]
      refine .cons ?_ (ih (k + 1) fun j v e => ?_)
      · obtain ⟨t, q⟩ := hk 0 a rfl
        exact ⟨t, by rw [q]; simp⟩
      · obtain ⟨t, q⟩ := hk (j + 1) v (by simpa using e)
        exact ⟨t, by rw [q]; congr 3; omega⟩
  have := key acc.toList 0 fun j v e => by
    obtain ⟨t, q⟩ := hv j v (by simpa using e)
    exact ⟨t, by rw [q]; simp⟩
  unfold o7
  rw [List.range_eq_range', <- hs]
  simpa using this
section
variable {X : Cx}
theorem Inv.rng {pins : List (Addr × Obj)} {σ : St} {H : Hp} {s : Shared} {lo hi st : Int} {t u v : Tok} {tk : Nat} (I : Inv X pins σ H s) :
    Inv X pins σ (upd H s.heap.objs.size (m4 s.heap.objs.size lo hi st)) { s with heap := s.heap.push { cls := .type "range", data := .fields #[.int lo t, .int hi u, .int st v] }, toks := tk } := by
  refine I.laid (fun b o e => Heap.get?_push_of_some _ e) (Nat.le_refl _) ?_
  refine ⟨⟨t, u, v, Heap.get?_push_size _ rfl⟩, ⟨_, Heap.get?_push_size _ rfl⟩, fun h1 h2 ⟨a, b, c, e⟩ k => ⟨a, b, c, k _ e⟩⟩
theorem rO : bL X (.type "range") (fun vs H Q => ∃ j, vs = [.int j] /\ ∀ p, H p = none -> Q (.ref p) (upd H p (m4 p 0 j 1))) := by
  intro pins s σ H xs us Q I r h
  obtain ⟨j, rfl, q⟩ := h
  obtain ⟨u, rfl, t, rfl⟩ := vals1 r
  exact call_range_1 ⟨.ref _, _, I.rng, rfl, q _ (I.hok.fresh (Nat.le_refl _))⟩
theorem rU : bL X (.type "range") (fun vs H Q => ∃ i j, vs = [.int i, .int j] /\ ∀ p, H p = none -> Q (.ref p) (upd H p (m4 p i j 1))) := by
  intro pins s σ H xs us Q I r h
  obtain ⟨i, j, rfl, q⟩ := h
  obtain ⟨u, w', rfl, ⟨t, rfl⟩, ⟨t', rfl⟩⟩ := vals2 r
  exact call_range_2 ⟨.ref _, _, I.rng, rfl, q _ (I.hok.fresh (Nat.le_refl _))⟩
structure rh (lo hi st : Int) (n : Nat) : Prop where
  sm : Builtin.Range.small lo hi st = true
  sz : Builtin.Range.rangeSize lo hi st = n
  le : n <= 2 ^ 20
theorem Inv.A8 {pins : List (Addr × Obj)} {σ : St} {H : Hp} {s : Shared} {p : Addr} {lo hi st : Int} (I : Inv X pins σ H s) (h : H p = some (m4 p lo hi st)) : ∃ t u v, IsRange s.heap p lo hi st t u v := by
  obtain ⟨⟨t, u, v, e⟩, _⟩ := I.hok p _ h
  exact ⟨t, u, v, e⟩
theorem lR (hc : X.calm = true) : bL X (.type "list") (fun vs H Q => ∃ p lo hi st n, vs = [.ref p] /\ H p = some (m4 p lo hi st) /\ rh lo hi st n /\ ∀ l, H l = none -> Q (.ref l) (upd H l (.lst ((o7 lo st n).map V.int)))) := by
  intro pins s σ H xs us Q I r h
  obtain ⟨p, lo, hi, st, n, rfl, hp, ok, q⟩ := h
  obtain ⟨u, rfl, rx⟩ := vals1 r
  cases rx
  obtain ⟨t, u, v, hr⟩ := I.A8 hp
  have hn := ok.le
  refine call_list_range (I.ok.hd hc) hr ok.sm ok.sz (by omega) fun h' tk acc c kp e hi => ?_
  have hv := qB hi
  refine ⟨.ref s.heap.objs.size, _, I.laid (t' := tk) kp (Nat.le_refl _) (show bO X.prog X.w _ h' _ (.lst _) from ⟨?_, acc.toList, c, hv, by simpa using e⟩), rfl, q _ (I.hok.fresh (Nat.le_refl _))⟩
  rw [List.length_map, pI, sizeLine_eq]; omega
end
section
variable {X : Cx}
theorem sY {a b : Int} (h1 : -1000000 <= a) (h2 : a <= 1000000) (h3 : -1000000 <= b) (h4 : b <= 1000000) (h : b - a <= 1000000) : rh a b 1 (b - a).toNat :=
  ⟨small_one (by omega) (by omega) (by omega) (by omega), by rw [rangeSize_one]; split <;> omega, by omega⟩
inductive RdD (K : PySem.W.Frag) (H : Hp) : V -> PyData -> Prop
  | non : RdD K H .non .none
  | bl (b : Bool) : RdD K H (.bl b) (.bool b)
  | int (i : Int) : RdD K H (.int i) (.int i)
  | str (x : Str) : RdD K H (.str x) (.str x)
  | tup {a : Addr} {xs : List V} {ds : List PyData} (h : SqT K H a xs) (hl : xs.length = ds.length) (hx : ∀ (i : Nat) x d, xs[i]? = some x -> ds[i]? = some d -> RdD K H x d) : RdD K H (.ref a) (.tuple ds)
  | lst {a : Addr} {xs : List V} {ds : List PyData} (h : SqL K H a xs) (hl : xs.length = ds.length) (hx : ∀ (i : Nat) x d, xs[i]? = some x -> ds[i]? = some d -> RdD K H x d) : RdD K H (.ref a) (.list ds)
theorem gQ {h : Heap} : ∀ {us : List Value} {ds : List PyData}, us.length = ds.length -> (∀ (i : Nat) u d, us[i]? = some u -> ds[i]? = some d -> ∃ as, Reads h u d as) -> ∃ as, ReadsAll h us ds as
  | [], [], _, _ => ⟨_, .nil⟩
  | [], _ :: _, hl, _ => by simp at hl
  | _ :: _, [], hl, _ => by simp at hl
  | u :: us, d :: ds, hl, hx => by
    obtain ⟨as, h1⟩ := hx 0 u d rfl rfl
    obtain ⟨bs, h2⟩ := gQ (us := us) (ds := ds) (by simpa using hl) fun i u d e1 e2 => hx (i + 1) u d (by simpa using e1) (by simpa using e2)
    exact ⟨_, .cons h1 h2⟩
theorem Vals.get' {xs : List V} {us : List Value} {i : Nat} {u : Value} (r : Vals xs us) (h : us[i]? = some u) : ∃ x, xs[i]? = some x /\ RelV x u := by
  have hl := r.length
  have hi : i < xs.length := by rw [hl]; exact (List.getElem?_eq_some_iff.mp h).1
  obtain ⟨u', e1, e2⟩ := r.get (List.getElem?_eq_getElem hi)
  rw [h] at e1; cases e1
  exact ⟨_, List.getElem?_eq_getElem hi, e2⟩
theorem Inv.reads {pins : List (Addr × Obj)} {σ : St} {H : Hp} {s : Shared} (I : Inv X pins σ H s) {x : V} {d : PyData} (r : RdD X.K H x d) : ∀ u, RelV x u -> ∃ as, Reads s.heap u d as := by
  induction r with
  | non => intro u ru; cases (show u = Value.none from ru); exact ⟨_, .none⟩
  | bl b => intro u ru; cases (show u = Value.bool b from ru); exact ⟨_, .bool b⟩
  | int i => intro u ru; obtain ⟨t, q⟩ := (show ∃ t, u = Value.int i t from ru); cases q; exact ⟨_, .int i t⟩
  | str y => intro u ru; obtain ⟨t, q⟩ := (show ∃ t, u = Value.str y t from ru); cases q; exact ⟨_, .str y t⟩
  | @tup a xs ds h hl hx ih =>
    intro u ru
    cases (show u = Value.ref a from ru)
    obtain ⟨its, rv, p, hz⟩ := I.tuple h
    obtain ⟨o, ho, hc, n, hd⟩ := p
    obtain ⟨as, ra⟩ := gQ (h := s.heap) (us := its) (ds := ds) (by rw [<- rv.length, hl]) fun i u d e1 e2 => by
      obtain ⟨y, e3, ry⟩ := rv.get' e1
      exact ih i y d e3 e2 u ry
    exact ⟨_, .tuple ho hc hd (by simpa using ra)⟩
  | @lst a xs ds h hl hx ih =>
    intro u ru
    cases (show u = Value.ref a from ru)
    obtain ⟨its, rv, p, hz⟩ := I.list h
    obtain ⟨o, ho, hc, n, hd⟩ := p.isList
    obtain ⟨as, ra⟩ := gQ (h := s.heap) (us := its) (ds := ds) (by rw [<- rv.length, hl]) fun i u d e1 e2 => by
      obtain ⟨y, e3, ry⟩ := rv.get' e1
      exact ih i y d e3 e2 u ry
    exact ⟨_, .list ho hc hd (by simpa using ra)⟩
theorem sM (hg : X.A.guards = some []) (hu : X.A.units + 64 < cLine) : bL X (.builtin "repr") (fun vs H Q => ∃ p d, vs = [.ref p] /\ RdD X.K H (.ref p) d /\ d.showable = true /\ d.hasDict = false /\ d.depth <= 60 /\ d.shown.length <= sizeLine /\ Q (.str d.shown) H) := by
  intro pins s σ H xs us Q I r h
  obtain ⟨p, d, rfl, rd, hs, hd, hdp, hz, q⟩ := h
  obtain ⟨u, rfl, rx⟩ := vals1 r
  cases rx
  obtain ⟨as, ra⟩ := I.reads rd (.ref p) rfl
  exact repr_of_reads' ra hs (PyData.noDict_hsm hd) hg (by omega) (fun _ _ e => e) (fun h' u tk kp => ⟨.str d.shown, H, I.kept kp, ⟨_, rfl⟩, q⟩) hz
theorem p6 : bL X (.builtin "repr") (fun vs H Q => ∃ i, vs = [.int i] /\ i.natAbs.log2 < 1920 /\ Q (.str (toString i)) H) := by
  intro pins s σ H xs us Q I r h
  obtain ⟨i, rfl, hi, q⟩ := h
  obtain ⟨u, rfl, t, rfl⟩ := vals1 r
  exact PySem.P.repr_of_int hi ⟨.str (toString i), H, I.tok _, ⟨_, rfl⟩, q⟩
end
theorem Inv.Bw {X : Cx} {pins : List (Addr × Obj)} {σ : St} {H : Hp} {s : Shared} {C : Addr} {o : Obj} {h' : Heap} (I : Inv X (pins ++ [(C, o)]) σ H s) (cC : ∀ x c, X.env.cells.lookup x = some c -> c ≠ C) (hC : X.aQ.heap.objs.size <= C) (pC : ∀ p ∈ X.pn ++ pins, p.1 ≠ C) (hs : Heap.SameBut C s.heap h') : Inv X pins σ H { s with heap := h' } := by
  have kb : ∀ b u, b ≠ C -> s.heap.get? b = some u -> h'.get? b = some u := fun b u hb z => hs.extBut b u hb z
  obtain ⟨q0, q1, q2, q3, q4⟩ := I.pin (C, o) (List.mem_append_right _ (List.mem_append_right _ (List.mem_singleton.mpr rfl)))
  have J : Inv X pins σ H s := I.kr fun p hp => I.pin p (List.mem_append_right _ (List.mem_append_left _ hp))
  refine J.vi (s' := { s with heap := h' }) (ch := [C]) rfl ⟨fun b u z n a c => kb b u (fun e => c (by rw [e]; exact List.mem_singleton.mpr rfl)) z, fun b u z n a c => ⟨u.slots, kb b _ (fun e => c (by rw [e]; exact List.mem_singleton.mpr rfl)) z⟩, fun b u z n c => n, fun b u z c => ⟨u, kb b u (fun e => c (by rw [e]; exact List.mem_singleton.mpr rfl)) z⟩, fun b xs z => z, fun b ob u z => z, fun b ps z => ⟨#[], by simpa using z⟩⟩ (J.hok.sameBut q1 kb) J.bare fun b hb => ?_
  have e := List.mem_singleton.mp hb
  subst e
  exact ⟨.inr hC, q2, fun x c z => cC x c z, pC⟩
noncomputable def uH (nt : Nat) (ix : List Nat) (σ : St) : St := List.replicate nt none ++ ix.map fun i => (σ[i]?).join
noncomputable def oQ (nt : Nat) (ix : List Nat) (σ σ' : St) : Prop := ∃ ts : St, ts.length = nt /\ σ' = ts ++ ix.map fun i => (σ[i]?).join
noncomputable abbrev yD (J : It) (nt : Nat) (ix : List Nat) (σ : St) (tg : TG) (tt : TT) (te : TE) (acc : Addr) (H1 : Hp) (Q : VK) : Prop :=
  ∃ W : Nat -> Nat -> List V -> Hp -> Prop, (∃ m, W 0 m [] (upd H1 acc (.lst []))) /\ ∀ i m ys H, W i m ys H →
    (J.stop i H /\ Q (.ref acc) H) \/ (J.go i H /\ ∀ σ0 x H', oQ nt ix σ σ0 -> J.yld i H x H' -> tg x σ0 H' fun σ2 Hn => oQ nt ix σ σ2 /\ tt σ2 Hn fun b H2 => if b = true then te σ2 H2 fun y H3 =>
        H3 acc = some (.lst ys) /\ ys.length < sizeLine /\ ∃ m', m' < m /\ W (i + 1) m' (ys ++ [y]) (upd H3 acc (.lst (ys ++ [y])))
      else ∃ m', m' < m /\ W (i + 1) m' ys H2)
noncomputable def p4 (wi : TI) (nt : Nat) (ix : List Nat) (tg : TG) (tt : TT) (te : TE) : TE := fun σ H Q => wi σ H fun J H1 => ∀ acc, H1 acc = none -> yD J nt ix σ tg tt te acc H1 Q
theorem sI {X : Cx} {use : Option (Value -> Sem Unit)} {Q2 : Value -> Shared -> Prop} {pins : List (Addr × Obj)} {s : Shared} {σ : St} {H : Hp} {Q : VK} {elt iter tg : Expr} {tn' : List Str} {tgr : TG} {ifs : List Expr} {scope osc : Scope} {pos : Pos} {wi : TI} {tt : TT} {te : TE} (ix : List Nat) (N' : List Str)
    (hxe : X.xe = fun _ _ => False) (hc : X.calm = true) (ho : X.env.scope = osc) (hN : N' = tn' ++ ix.map fun i => (X.N[i]?).getD ("" : Str)) (hnd : N'.Nodup)
    (hall : (∀ y ∈ scope.names, y.2 = .free -> osc.names.lookup y.1 = some .cell) /\ (∀ y ∈ scope.names, y.2 ≠ .cell) /\ scope.kind = .function /\ (∀ y ∈ scope.names, y.2 = .local -> scope.names.lookup y.1 = some .local) /\ (∀ y ∈ N'.drop tn'.length, scope.names.lookup y = some .free))
    (hi : PI X tg iter wi) (hg : ∀ cl C aQ bx fp, PG (ff X scope cl C aQ bx fp N') tg tgr)
    (ht : ∀ cl C aQ bx fp, PTs (ff X scope cl C aQ bx fp N') ifs tt)
    (he : ∀ cl C aQ bx fp, PE (ff X scope cl C aQ bx fp N') elt te)
    (hs : ∀ x, foldedSetIterable iter X.env x = pure x) (I : Inv X pins σ H s) (h : p4 wi tn'.length ix tgr tt te σ H Q)
    (hfin : ∀ (acc C : Addr) (H5 : Hp) (s5 : Shared) (o : Obj), Inv X (pins ++ [(C, o)]) σ H5 s5 -> (∀ x c, X.env.cells.lookup x = some c -> c ≠ C) -> X.aQ.heap.objs.size <= C -> (∀ p ∈ X.pn ++ pins, p.1 ≠ C) -> (∃ m, ∀ h' : Heap, h'.get? C = some o -> h'.Ns C m) -> Q (.ref acc) H5 -> compPost (model X.prog X.w) X.A X.xe use Q2 (.ref acc) C (.ok .next) s5) :
    wpAny (model X.prog X.w) X.A (comprehension (.ListComp elt [⟨tg, iter, ifs, 0⟩] scope pos) scope X.env (firstIterPos [⟨tg, iter, ifs, 0⟩] pos) (newList []) false (eval iter X.env) use) Q2 X.xe s := by
  obtain ⟨hfr, hcell, hkind, hnames, hcap⟩ := hall
  subst ho
  have outc : ∀ y ∈ scope.names, y.2 = .free -> X.env.kindOf y.1 = some .cell := fun y hy q => hfr y hy q
  obtain ⟨cl, hclos, hcl1, hcl2⟩ := ie (env := X.env) (scope := scope) fun y hy q => I.ok.has y.1 (.inl (outc y hy q))
  refine wpAny_comprehension_free (use := use) rfl hs hclos hkind hnames (thn (hi pins s σ H _ I h) fun v s1 h1 => thn h1 fun itv s2 h2 => ?_)
  obtain ⟨it, fp, tn, J, H2, e, I2, T, st2, f2, rest⟩ := h2
  subst e
  have hf2 : H2 s2.heap.objs.size = none := I2.hok.fresh (Nat.le_refl _)
  obtain ⟨W, ⟨m0, w0⟩, turn⟩ := rest s2.heap.objs.size hf2
  -- the list
  refine wpAny_newObj_type ?_
  have I3 : Inv X pins σ (upd H2 s2.heap.objs.size (.lst [])) { s2 with heap := s2.heap.push { cls := .type "list", dict := none, data := .seq ([] : List Value).toArray } } := I2.vQ (its := []) (t' := s2.toks) .nil (Nat.zero_le _)
  have keep3 : ∀ b o, s2.heap.get? b = some o -> (s2.heap.push { cls := .type "list", dict := none, data := .seq ([] : List Value).toArray }).get? b = some o := fun b o q => Heap.get?_push_of_some _ q
  have fp3 : ∀ b ∈ fp, ∃ o, s2.heap.get? b = some o /\ ∀ v, o.data ≠ .cell v := T.obj _ _ st2
  have st3 : tn 0 (s2.heap.push { cls := .type "list", dict := none, data := .seq ([] : List Value).toArray }) := T.keep _ _ _ st2 fun b _ o q => keep3 b o q
  have fpn : ∀ b ∈ fp, (upd H2 s2.heap.objs.size (HO.lst [])) b = none := fun b hb => by
    obtain ⟨o, q, _⟩ := fp3 b hb
    rw [aS (Nat.ne_of_lt (Heap.lt_size q))]
    exact (f2 b hb).1
  revert I3 keep3 st3 fpn w0
  generalize hS3 : ({ s2 with heap := s2.heap.push { cls := .type "list", dict := none, data := .seq ([] : List Value).toArray } } : Shared) = s3
  generalize hH3 : upd H2 s2.heap.objs.size (HO.lst []) = H3
  intro w0 I3 keep3 st3 fpn
  have acc3 : H3 s2.heap.objs.size = some (.lst []) := by rw [<- hH3]; exact bg
  generalize s2.heap.objs.size = acc at *
  have e3 : s2.heap.push { cls := .type "list", dict := none, data := .seq ([] : List Value).toArray } = s3.heap := by rw [<- hS3]
  have keep3' : ∀ b o, s2.heap.get? b = some o -> s3.heap.get? b = some o := fun b o q => by rw [<- e3]; exact keep3 b o q
  have st3' : tn 0 s3.heap := by rw [<- e3]; exact st3
  refine wpAny_newFunctionEnv hcell (by intro y hy; simp at hy) (fun h₁ hns₁ hsb₁ => ?_) hkind
  have hC : s3.heap.objs.size = s3.heap.objs.size := rfl
  have keep4 : ∀ b o, s3.heap.get? b = some o -> h₁.get? b = some o := fun b o q => hsb₁.extBut b o (Nat.ne_of_lt (Heap.lt_size q)) (Heap.get?_push_of_some _ q)
  have fpC : ∀ b ∈ fp, b ≠ s3.heap.objs.size := fun b hb => by
    obtain ⟨o, q, _⟩ := fp3 b hb
    exact Nat.ne_of_lt (Heap.lt_size (keep3' b o q))
  -- the block's context
  generalize hX' : ff X scope cl s3.heap.objs.size s3 H3 fp N' = X'
  have hXp : X'.prog = X.prog := by rw [<- hX']; rfl
  have hXw : X'.w = X.w := by rw [<- hX']; rfl
  have hXK : X'.K = X.K := by rw [<- hX']; rfl
  have hXA : X'.A = X.A := by rw [<- hX']; rfl
  have hXe : X'.env = compEnvC scope cl s3.heap.objs.size X.env := by rw [<- hX']; rfl
  have hXc : X'.calm = true := by rw [<- hX']; exact hc
  have hXx : X'.xe = fun _ _ => False := by rw [<- hX']; exact hxe
  have hXf : X'.fs = frs X.stack := by rw [<- hX']; rfl
  have hXex : X'.ex = fp := by rw [<- hX']; rfl
  have hXN : X'.N = N' := by rw [<- hX']; rfl
  have hXs : X'.aQ = s3 := by rw [<- hX']; rfl
  have hXH : X'.bx = H3 := by rw [<- hX']; rfl
  have hXpn : X'.pn = [] := by rw [<- hX']; rfl
  have okX : X'.Ok := by
    rw [<- hX']
    refine ⟨I3.ok.mod, hkind, I3.ok.glob, I3.ok.blt, Nat.le_refl _, fun a b c p q => I3.ok.inj a b c (hcl1 a c p) (hcl1 b c q), fun y hy => ?_, fun _ _ z => (by cases z), I3.ok.hd, I3.ok.frames, .inl rfl, fun b hb => ⟨fpC b hb, fun y c p => (f2 b hb).2.2.2.2.1 y c (hcl1 y c p)⟩,
      I3.bs, Nat.le_trans I3.ok.bsz I3.sz, fun b o p hb => ?_, fun b hb z => ?_, I3.stack, I3.nV⟩
    · have hy' : (relabel scope X.env).names.lookup y = some .cell \/ (relabel scope X.env).names.lookup y = some .free := hy
      have free : scope.names.lookup y = some .free -> ∃ c, cl.lookup y = some c := fun q => hcl2 y (lookup_mem q)
      rcases hy' with q | q
      · rcases dk q with z | ⟨z, _⟩
        · exact absurd rfl (hcell _ (lookup_mem z))
        · exact free z
      · rcases dk q with z | ⟨_, z⟩
        · exact free z
        · cases z
    · rcases (f2 b hb).2.2.2.1 with z | z
      · exact I3.ok.rW b o p z
      · exact absurd (Nat.lt_of_lt_of_le (Heap.lt_size p) (Nat.le_trans I3.ok.bsz z)) (Nat.lt_irrefl _)
    · rcases List.mem_cons.mp (I3.jx b z) with q | q
      · exact (f2 b hb).2.1 q
      · exact (f2 b hb).2.2.1 q
  have I4 : ∀ tk, Inv X' [] (uH tn'.length ix σ) H3 { s3 with heap := h₁, toks := tk } := fun tk => by
    have hloc := I3.loc
    refine ⟨okX, by rw [hXs], I3.bare, ?_, ⟨fun y => ([] : List (Str × Value)).reverse.lookup y, by rw [hXe]; exact hns₁, fun i y v e1 e2 e3 => ?_⟩, fun y c p => ?_, ?_, fun y c p => ?_, fun p hp => ?_, ?_, ?_⟩
    · rw [hXf, hXex, hXH, hXs]; exact Un.kept keep4
    · rw [hXN, hN] at e1
      by_cases hit' : i < tn'.length
      · exfalso
        unfold uH at e2
        rw [List.getElem?_append_left (by simpa using hit'), List.getElem?_replicate, if_pos hit'] at e2
        cases e2
      · have e10 : N'[i]? = some y := by rw [hN]; exact e1
        obtain ⟨j, rfl⟩ : ∃ j, i = tn'.length + j := ⟨i - tn'.length, by omega⟩
        have e1' : (ix.map fun i => (X.N[i]?).getD ("" : Str))[j]? = some y := by
          rw [List.getElem?_append_right (by omega)] at e1
          rw [show tn'.length + j - tn'.length = j by omega] at e1
          exact e1
        have e2' : (ix.map fun i => (σ[i]?).join)[j]? = some (some v) := by
          unfold uH at e2
          rw [List.getElem?_append_right (by simp)] at e2
          simpa using e2
        rw [List.getElem?_map] at e1' e2'
        cases hj : ix[j]? with
        | none => rw [hj] at e1'; cases e1'
        | some i0 =>
          rw [hj] at e1' e2'
          have e1'' : (X.N[i0]?).getD ("" : Str) = y := by simpa using e1'
          have e2'' : (σ[i0]?).join = some v := by simpa using e2'
          have hsv : σ[i0]? = some (some v) := by
            cases q : σ[i0]? with
            | none => rw [q] at e2''; cases e2''
            | some z => rw [q] at e2''; have : z = some v := by simpa using e2''
                        rw [this]
          have hlt : i0 < X.N.length := by
            have := (List.getElem?_eq_some_iff.mp hsv).1
            rw [I3.len] at this; exact this
          have hNy : X.N[i0]? = some y := by
            rw [List.getElem?_eq_getElem hlt] at e1'' ⊢
            simpa using e1''
          have hyt : y ∈ N'.drop tn'.length := by
            refine List.mem_of_getElem? (i := j) ?_
            rw [List.getElem?_drop]; exact e10
          have hyf := hcap y hyt
          have hyc := outc (y, .free) (lookup_mem hyf) rfl
          obtain ⟨m, hn, hl⟩ := hloc
          obtain ⟨u, r, l⟩ := hl i0 y v hNy hsv (.inr (.inl hyc))
          refine ⟨u, r, ?_⟩
          rcases l with ⟨k1, _⟩ | ⟨_, c, p, z⟩
          · have hyc' : X.env.kindOf y = some .cell := hyc
            rw [k1] at hyc'; cases hyc'
          · obtain ⟨c', p'⟩ := hcl2 y (lookup_mem hyf)
            have pc : c' = c := by
              have := hcl1 y c' p'
              rw [p] at this; cases this; rfl
            subst pc
            refine .inr ⟨.inl ?_, c', by rw [hXe]; exact p', ?_⟩
            · rw [hXe]; exact cO I3.ok.kind hyf hyc
            · obtain ⟨o, q1, q2⟩ := z
              exact ⟨o, keep4 c' o q1, q2⟩
    · rw [hXe] at p
      obtain ⟨v, o, q1, q2⟩ := I3.cell y c (hcl1 y c p)
      exact ⟨v, o, keep4 c o q1, q2⟩
    · rw [hXe]; exact I3.hok.fresh (Nat.le_refl _)
    · rw [hXe] at p; exact I3.gF y c (hcl1 y c p)
    · rw [hXpn] at hp; cases hp
    · rw [hXp, hXw]; exact I3.hok.kept keep4
    · rw [hXN, hN]; simp [uH]
  -- the loop
  have stat : ∀ {H' : Hp}, (∀ b ∈ fp, H' b = none) -> ∀ b ∈ fp, oM X' [] H' b := fun hn b hb => by
    refine ⟨hn b hb, by rw [hXe]; exact fpC b hb, ?_, .inl (by rw [hXex]; exact hb), fun y c p => ?_, fun p hp => by rw [hXpn] at hp; cases hp⟩
    · rw [hXf]; intro z
      rcases List.mem_cons.mp (I3.jx b z) with q | q
      · exact (f2 b hb).2.1 q
      · exact (f2 b hb).2.2.1 q
    · rw [hXe] at p; exact (f2 b hb).2.2.2.2.1 y c (hcl1 y c p)
  have fin : ∀ {H5 : Hp} {s5 : Shared} {σ5 : St}, Inv X' [] σ5 H5 s5 -> Q (.ref acc) H5 -> compPost (model X.prog X.w) X.A X.xe use Q2 (.ref acc) s3.heap.objs.size (.ok .next) s5 := fun {H5 s5 σ5} I5 q => by
    obtain ⟨m, hn, _⟩ := I5.loc
    rw [hXe] at hn
    have hn' : s5.heap.Ns s3.heap.objs.size m := hn
    obtain ⟨oC, esC, epC, hC1, hC2, hC3⟩ := hn'
    have u5 := I5.base
    rw [hXf, hXex, hXH, hXs] at u5
    have fr : H5 s3.heap.objs.size = none := by have := I5.free; rw [hXe] at this; exact this
    have hok5 := I5.hok
    rw [hXp, hXw] at hok5
    have hos : s5.os = s3.os := by have := I5.os; rw [hXs] at this; exact this
    have IX : Inv X pins σ H5 s5 := I3.vi (s' := s5) (ch := fp) hos u5 hok5 I5.bare (fun b hb => by
      obtain ⟨g0, g1, g2, g3, g4, g5⟩ := f2 b hb
      exact ⟨g3, g1, g4, g5⟩)
    have cC : ∀ x c, X.env.cells.lookup x = some c -> c ≠ s3.heap.objs.size := fun x c z e => by
      obtain ⟨v, q⟩ := I3.cell x c z
      exact absurd q.lt (by rw [e]; exact Nat.lt_irrefl _)
    have pC : ∀ p ∈ X.pn ++ pins, p.1 ≠ s3.heap.objs.size := fun p hp e => by
      have := Heap.lt_size (I3.pin p hp).1
      rw [e] at this
      exact Nat.lt_irrefl _ this
    refine hfin acc s3.heap.objs.size H5 s5 oC (IX.kr fun p hp => ?_) cC I3.sz pC ⟨m, fun h' z => ⟨oC, esC, epC, z, hC2, hC3⟩⟩ q
    rcases List.mem_append.mp hp with z | z
    · exact IX.pin p (List.mem_append_right _ z)
    · have e := List.mem_singleton.mp z
      subst e
      refine ⟨hC1, fr, Nat.ne_of_gt I3.lt, I3.Af (Nat.le_refl _), fun v e => ?_⟩
      have e' : oC.data = .cell v := e
      rw [hC2] at e'; cases e'
  have loop : ∀ tk, codeAny (model X.prog X.w) X.A (.compLoop (.ListComp elt [⟨tg, iter, ifs, 0⟩] scope pos) 0 (.ref it) (.ref acc) (compEnvC scope cl s3.heap.objs.size X.env))
      (compPost (model X.prog X.w) X.A X.xe use Q2 (.ref acc) s3.heap.objs.size) { s3 with heap := h₁, toks := tk } := fun tk => by
    refine jU (fun n s' => ∃ i ys σ' H', Inv X' [] σ' H' s' /\ oQ tn'.length ix σ σ' /\ tn i s'.heap /\ (∀ b ∈ fp, H' b = none) /\ W i n ys H') (fun n s5 h5 => ?_) m0
      ⟨0, [], uH tn'.length ix σ, H3, I4 tk, ⟨_, List.length_replicate, rfl⟩, T.keep _ _ _ st3' fun b _ o q => keep4 b o q, fpn, w0⟩
    obtain ⟨i, ys, σ5, H5, I5, hσ, st5, fr5, w5⟩ := h5
    rcases turn i n ys H5 w5 with ⟨stop, q⟩ | ⟨go, step⟩
    · have d := T.done X' hXp hXw hXK hXc i [] s5 σ5 H5 (fun _ _ => False) I5 (stat fr5) st5 stop
      rw [hXA] at d
      refine thn d fun r s6 ⟨hr, I6⟩ => ?_
      subst hr
      exact fin I6 q
    · have d := T.item X' hXp hXw hXK hXc i [] s5 σ5 H5 (fun _ _ => False) I5 (stat fr5) st5 go
      rw [hXA] at d
      refine thn d fun r s6 ⟨u, hr, h6⟩ => ?_
      subst hr
      refine thn h6 fun _ s7 ⟨z, H7, I7, r7, y7, st7, fr7⟩ => ?_
      have I7' := I7.pinned (stat fr7) (T.obj _ _ st7)
      have again : ∀ {H9 : Hp} {s9 : Shared} {ys9 : List V} {σ9 : St}, Inv X' ([] ++ jr fp s7.heap) σ9 H9 s9 -> oQ tn'.length ix σ σ9 -> (∃ m', m' < n /\ W (i + 1) m' ys9 H9) -> ∃ m', m' < n /\ ∃ i ys σ' H', Inv X' [] σ' H' s9 /\ oQ tn'.length ix σ σ' /\ tn i s9.heap /\ (∀ b ∈ fp, H' b = none) /\ W i m' ys H' := fun {H9 s9 ys9 σ9} I9 c9 ⟨m', hm, w9⟩ => by
        refine ⟨m', hm, i + 1, ys9, _, H9, I9.gL, c9, T.keep _ _ _ st7 fun b hb o e => (I9.pin (b, o) (List.mem_append_right _ (List.mem_append_right _ (dH hb e)))).1, fun b hb => ?_, w9⟩
        obtain ⟨o, e, _⟩ := T.obj _ _ st7 b hb
        exact (I9.pin (b, o) (List.mem_append_right _ (List.mem_append_right _ (dH hb e)))).2.1
      have ht' := ht cl s3.heap.objs.size s3 H3 fp
      have he' := he cl s3.heap.objs.size s3 H3 fp
      have hg' := hg cl s3.heap.objs.size s3 H3 fp
      rw [hX'] at ht' he' hg'
      rw [<- hXe]
      have a0 := hg' _ s7 σ5 H7 z u _ I7' r7 (step σ5 z H7 hσ y7)
      rw [hXp, hXw, hXA, hXx] at a0
      refine thn a0 fun _ s8 ⟨σ8, H8, I8, c8, q8⟩ => ?_
      have a1 := ht' _ s8 _ H8 _ I8 q8
      rw [hXp, hXw, hXA, hXx] at a1
      refine thn a1 fun b s9 ⟨H9, I9, q9⟩ => ?_
      cases b with
      | false => exact again I9 c8 q9
      | true =>
        have a2 := he' _ s9 _ H9 _ I9 q9
        rw [hXp, hXw, hXA, hXx] at a2
        refine thn a2 fun yv s10 ⟨y, H10, I10, r10, q1, q2, q3⟩ => ?_
        have a3 := l0 (X := X') _ s10 _ H10 (.ref acc) [y] (.ref acc) [yv] (fun _ Hq => ∃ m', m' < n /\ W (i + 1) m' (ys ++ [y]) Hq) I10 rfl (.cons r10 .nil) ⟨acc, ys, y, rfl, rfl, q1, q2, q3⟩
        rw [hXp, hXw, hXA, hXx] at a3
        exact thn a3 fun _ s11 ⟨_, H11, I11, _, q11⟩ => again I11 c8 q11
  refine codeAny_compStart_list (loop _) ?_
  exact T.self _ 0 _ _ _ (T.keep _ _ _ st3' fun b _ o q => keep4 b o q) (loop _)
section
variable {X : Cx} {elt iter tg : Expr} {tn' : List Str} {tgr : TG} {ifs : List Expr} {scope osc : Scope} {pos : Pos} {wi : TI} {tt : TT} {te : TE}
theorem tB (ix : List Nat) (tn' N' : List Str)
    (hxe : X.xe = fun _ _ => False) (hc : X.calm = true) (ho : X.env.scope = osc) (hN : N' = tn' ++ ix.map fun i => (X.N[i]?).getD ("" : Str)) (hnd : N'.Nodup)
    (hall : (∀ y ∈ scope.names, y.2 = .free -> osc.names.lookup y.1 = some .cell) /\ (∀ y ∈ scope.names, y.2 ≠ .cell) /\ scope.kind = .function /\ (∀ y ∈ scope.names, y.2 = .local -> scope.names.lookup y.1 = some .local) /\ (∀ y ∈ N'.drop tn'.length, scope.names.lookup y = some .free))
    (hi : PI X tg iter wi) (hg : ∀ cl C aQ bx fp, PG (ff X scope cl C aQ bx fp N') tg tgr)
    (ht : ∀ cl C aQ bx fp, PTs (ff X scope cl C aQ bx fp N') ifs tt)
    (he : ∀ cl C aQ bx fp, PE (ff X scope cl C aQ bx fp N') elt te)
    (hs : ∀ x, foldedSetIterable iter X.env x = pure x := by intro _; rfl) :
    PE X (.ListComp elt [⟨tg, iter, ifs, 0⟩] scope pos) (p4 wi tn'.length ix tgr tt te) := by
  intro pins s σ H Q I h
  have e : eval (.ListComp elt [⟨tg, iter, ifs, 0⟩] scope pos) X.env = comprehension (.ListComp elt [⟨tg, iter, ifs, 0⟩] scope pos) scope X.env (firstIterPos [⟨tg, iter, ifs, 0⟩] pos) (newList []) false (eval iter X.env) none := by
    rw [eval_ListComp]; rfl
  rw [e]
  refine sI (use := none) (Q2 := EP X pins σ Q) ix N' hxe hc ho hN hnd hall hi hg ht he hs I h fun acc C H5 s5 o I5 cC hC pC hm q => ?_
  obtain ⟨m, hm⟩ := hm
  exact ⟨m, hm _ (I5.pin (C, o) (List.mem_append_right _ (List.mem_append_right _ (List.mem_singleton.mpr rfl)))).1, fun h' hs' => ⟨.ref acc, H5, I5.Bw cC hC pC hs', rfl, q⟩⟩
end
section
variable {κ : Type} [DecidableEq κ]
noncomputable def iP (kvs : List (κ × V)) (k : κ) : Option V := (kvs.find? fun kv => decide (kv.1 = k)).map (·.2)
noncomputable def putK (kvs : List (κ × V)) (k : κ) (v : V) : List (κ × V) :=
  if (kvs.any fun kv => decide (kv.1 = k)) = true then kvs.map (fun kv => if kv.1 = k then (kv.1, v) else kv) else kvs ++ [(k, v)]
theorem i_ {p : κ × V} {r : List (κ × V)} {k : κ} (e : p.1 = k) : iP (p :: r) k = some p.2 := by simp [iP, List.find?_cons, e]
theorem i9 {p : κ × V} {r : List (κ × V)} {k : κ} (e : ¬ p.1 = k) : iP (p :: r) k = iP r k := by simp [iP, List.find?_cons, e]
theorem oA (k : κ) : ∀ kvs : List (κ × V), (kvs.any fun kv => decide (kv.1 = k)) = (iP kvs k).isSome
  | [] => rfl
  | p :: r => by
    rw [List.any_cons]
    by_cases e : p.1 = k
    · simp only [i_ e, decide_eq_true e, Bool.true_or, Option.isSome_some]
    · rw [i9 e, decide_eq_false e, Bool.false_or]; exact oA k r
theorem jT (kvs : List (κ × V)) (k : κ) (v : V) : (putK kvs k v).length <= kvs.length + 1 := by
  unfold putK
  split
  · rw [List.length_map]; omega
  · rw [List.length_append, List.length_cons, List.length_nil]; omega
theorem jI.sF {o : Option V} {u : Option Value} (r : jI o u) : o.isSome = u.isSome := by
  cases o with
  | none => cases u with
    | none => rfl
    | some _ => exact (show False from r).elim
  | some _ => cases u with
    | none => exact (show False from r).elim
    | some _ => rfl
theorem jI.getD {o : Option V} {u : Option Value} {d : V} {d' : Value} (r : jI o u) (rd : RelV d d') : RelV (o.getD d) (u.getD d') := by
  cases o with
  | none => cases u with
    | none => exact rd
    | some _ => exact (show False from r).elim
  | some _ => cases u with
    | none => exact (show False from r).elim
    | some _ => exact r
theorem KV.val {kvs : List (κ × V)} {vs : List (κ × Value)} (r : KV kvs vs) (k : κ) : jI (iP kvs k) (valueAt vs k) := by
  unfold KV at r
  induction r with
  | nil => exact True.intro
  | @cons p q ps qs h t ih =>
    obtain ⟨h1, h2⟩ := h
    by_cases e : p.1 = k
    · have e' : q.1 = k := h1.symm.trans e
      have b : valueAt (q :: qs) k = some q.2 := by simp [valueAt, List.find?_cons, e']
      rw [i_ e, b]; exact h2
    · have e' : ¬ q.1 = k := fun z => e (h1.trans z)
      have b : valueAt (q :: qs) k = valueAt qs k := by simp [valueAt, List.find?_cons, e']
      rw [i9 e, b]; exact ih
theorem KV.any {kvs : List (κ × V)} {vs : List (κ × Value)} (r : KV kvs vs) (k : κ) : (kvs.any fun kv => decide (kv.1 = k)) = vs.any fun kv => decide (kv.1 = k) := by
  unfold KV at r
  induction r with
  | nil => rfl
  | cons h t ih => rw [List.any_cons, List.any_cons, ih, h.1]
theorem KV.r6 {kvs : List (κ × V)} {vs : List (κ × Value)} (r : KV kvs vs) (k : κ) {y : V} {u : Value} (ry : RelV y u) :
    KV (kvs.map fun kv => if kv.1 = k then (kv.1, y) else kv) (vs.map fun kv => if kv.1 = k then (kv.1, u) else kv) := by
  unfold KV at r ⊢
  induction r with
  | nil => exact .nil
  | @cons p q ps qs h t ih =>
    rw [List.map_cons, List.map_cons]
    refine .cons ?_ ih
    obtain ⟨h1, h2⟩ := h
    by_cases e : p.1 = k
    · rw [if_pos e, if_pos (h1.symm.trans e)]; exact ⟨h1, ry⟩
    · rw [if_neg e, if_neg (fun z => e (h1.trans z))]; exact ⟨h1, h2⟩
theorem KV.put {kvs : List (κ × V)} {vs : List (κ × Value)} (r : KV kvs vs) (k : κ) {y : V} {u : Value} (ry : RelV y u) : KV (putK kvs k y) (stored vs k u) := by
  unfold putK stored
  rw [r.any k]
  by_cases e : (vs.any fun kv => decide (kv.1 = k)) = true
  · rw [if_pos e, if_pos e]; exact r.r6 k ry
  · rw [if_neg e, if_neg e]; exact Paired.snoc r ⟨rfl, ry⟩
theorem KV.length {kvs : List (κ × V)} {vs : List (κ × Value)} (r : KV kvs vs) : kvs.length = vs.length := Paired.length r
end
theorem qN {P : Program} {w : World} {k : Key} {u : Value} (r : RelV (kV k) u) : (b8 P w).is k u = true := by
  cases k with
  | inl i => obtain ⟨t, e⟩ := (show ∃ t, u = Value.int i t from r); subst e; exact pP P w i t
  | inr x => obtain ⟨t, e⟩ := (show ∃ t, u = Value.str x t from r); subst e; exact oU P w x t
theorem mL {P : Program} {w : World} : ∀ {ks : List Key} {us : List Value}, Vals (ks.map kV) us -> ItemsAre (b8 P w) ks us
  | [], _, r => by rw [List.map_nil] at r; cases r; exact .nil
  | k :: ks, _, r => by
    rw [List.map_cons] at r
    cases r with
    | cons h t => exact .cons (qN h) (mL t)
noncomputable abbrev KT (H : Hp) : List (List Key × V) -> List (List Key × Addr × Value) -> Prop := Paired fun p q => p.1 = q.1 /\ H q.2.1 = some (.tup (p.1.map kV)) /\ RelV p.2 q.2.2
theorem KT.val {H : Hp} {kvs : List (List Key × V)} {xs : List (List Key × Addr × Value)} (r : KT H kvs xs) (k : List Key) : jI (iP kvs k) ((atKey xs k).map (·.2)) := by
  induction r with
  | nil => exact True.intro
  | @cons p q ps qs h t ih =>
    obtain ⟨h1, _, h2⟩ := h
    by_cases e : p.1 = k
    · have e' : q.1 = k := h1.symm.trans e
      have b : atKey (q :: qs) k = some q.2 := by simp [atKey, List.find?_cons, e']
      rw [i_ e, b]; exact h2
    · have e' : ¬ q.1 = k := fun z => e (h1.trans z)
      have b : atKey (q :: qs) k = atKey qs k := by simp [atKey, List.find?_cons, e']
      rw [i9 e, b]; exact ih
theorem KT.r6 {H : Hp} {kvs : List (List Key × V)} {xs : List (List Key × Addr × Value)} (r : KT H kvs xs) (k : List Key) {y : V} {u : Value} (ry : RelV y u) :
    KT H (kvs.map fun kv => if kv.1 = k then (kv.1, y) else kv) (xs.map (putAt k u)) := by
  induction r with
  | nil => exact .nil
  | @cons p q ps qs h t ih =>
    rw [List.map_cons, List.map_cons]
    refine .cons ?_ ih
    obtain ⟨h1, h2, h3⟩ := h
    unfold putAt
    by_cases e : p.1 = k
    · rw [if_pos e, if_pos (h1.symm.trans e)]; exact ⟨h1, h2, ry⟩
    · rw [if_neg e, if_neg (fun z => e (h1.trans z))]; exact ⟨h1, h2, h3⟩
theorem KT.put {H : Hp} {kvs : List (List Key × V)} {xs : List (List Key × Addr × Value)} (r : KT H kvs xs) (k : List Key) {b : Addr} {y : V} {u : Value} (hb : H b = some (.tup (k.map kV))) (ry : RelV y u) :
    KT H (putK kvs k y) (storedH xs k b u) := by
  have e : (kvs.any fun kv => decide (kv.1 = k)) = (atKey xs k).isSome := by
    rw [oA, (r.val k).sF, Option.isSome_map]
  unfold putK storedH
  rw [e]
  by_cases q : (atKey xs k).isSome = true
  · rw [if_pos q, if_pos q]; exact r.r6 k ry
  · rw [if_neg q, if_neg q]; exact Paired.snoc r ⟨rfl, hb, ry⟩
theorem KT.keeps {H H' : Hp} {kvs : List (List Key × V)} {xs : List (List Key × Addr × Value)} (r : KT H kvs xs) (ht : ∀ b ys, H b = some (.tup ys) -> H' b = some (.tup ys)) : KT H' kvs xs :=
  Paired.uX r fun _ _ z => ⟨z.1, ht _ _ z.2.1, z.2.2⟩
section
variable {P : Program} {w : World} {H : Hp} {h : Heap} {a : Addr}
theorem xt {u : HO} (ok : HOk P w H h) (e : Rd H a u) : bO P w H h a u := e.ok ok
theorem oK {kvs : List (Key × V)} (ok : HOk P w H h) (e : Rd H a (.dK kvs)) : kvs.length <= sizeLine /\ (a == sysModules) = false /\ ∃ vs, KV kvs vs /\ h.DictOf (b8 P w) a vs :=
  show bO P w H h a (.dK kvs) from xt ok e
theorem A0 {kvs : List (Key × V)} (ok : HOk P w H h) (e : H a = some (.dK kvs)) : kvs.length <= sizeLine /\ (a == sysModules) = false /\ ∃ vs, KV kvs vs /\ h.DictOf (b8 P w) a vs := oK ok (.inl e)
theorem kL {ks : List Key} (ok : HOk P w H h) (e : H a = some (.tup (ks.map kV))) : (tupleKind (b8 P w)).is h ks a := by
  obtain ⟨_, its, r, o, h1, ⟨h2, n, h3⟩, _⟩ := (show bO P w H h a (.tup (ks.map kV)) from ok a _ e)
  exact ⟨o, its.toArray, n, h1, h2, h3, by simpa using mL r⟩
theorem pN {kvs : List (List Key × V)} (ok : HOk P w H h) (e : Rd H a (.dT kvs)) : kvs.length <= sizeLine /\ (a == sysModules) = false ∧
    ∃ xs, KT H kvs xs /\ h.DictOfH (tupleKind (b8 P w)) a xs := by
  obtain ⟨z, y, xs, r, o, es, ep, h1, h2, h3, h4, h5⟩ := (show bO P w H h a (.dT kvs) from xt ok e)
  refine ⟨z, y, xs, r, o, es, ep, h1, h2, h3, h4, fun x hx => ?_, h5⟩
  have all : ∀ {l : List (List Key × V)} {m : List (List Key × Addr × Value)}, KT H l m -> ∀ x ∈ m, (tupleKind (b8 P w)).is h x.1 x.2.1 := by
    intro l m q
    induction q with
    | nil => intro x hx; exact nomatch hx
    | @cons p q ps qs hq t ih =>
      intro x hx
      rcases List.mem_cons.mp hx with e | hx
      · subst e
        exact kL ok (by rw [<- hq.1]; exact hq.2.1)
      · exact ih x hx
  exact all r x hx
theorem xo {kvs : List (List Key × V)} (ok : HOk P w H h) (e : H a = some (.dT kvs)) : kvs.length <= sizeLine /\ (a == sysModules) = false ∧
    ∃ xs, KT H kvs xs /\ h.DictOfH (tupleKind (b8 P w)) a xs := pN ok (.inl e)
end
noncomputable def nY (H : Hp) (a : Addr) (y : V) (r : Option V) : Prop :=
  (∃ kvs k, Rd H a (.dK kvs) /\ y = kV k /\ r = iP kvs k) \/ ∃ kvs k b, Rd H a (.dT kvs) /\ y = .ref b /\ H b = some (.tup (k.map kV)) /\ r = iP kvs k
noncomputable def uL (H : Hp) (a : Addr) (y v : V) (H' : Hp) : Prop :=
  (∃ kvs k, H a = some (.dK kvs) /\ y = kV k /\ kvs.length < sizeLine /\ H' = upd H a (.dK (putK kvs k v))) ∨
  ∃ kvs k b, H a = some (.dT kvs) /\ y = .ref b /\ H b = some (.tup (k.map kV)) /\ kvs.length < sizeLine /\ H' = upd H a (.dT (putK kvs k v))
theorem nY.t {H : Hp} {a b : Addr} {kvs : List (List Key × V)} {k : List Key} (e : H a = some (.dT kvs)) (eb : H b = some (.tup (k.map kV))) : nY H a (.ref b) (iP kvs k) := .inr ⟨kvs, k, b, .inl e, rfl, eb, rfl⟩
theorem uL.t {H : Hp} {a b : Addr} {kvs : List (List Key × V)} {k : List Key} {v : V} (e : H a = some (.dT kvs)) (eb : H b = some (.tup (k.map kV))) (hl : kvs.length < sizeLine) :
    uL H a (.ref b) v (upd H a (.dT (putK kvs k v))) := .inr ⟨kvs, k, b, e, rfl, eb, hl, rfl⟩
section
variable {X : Cx} {pins : List (Addr × Obj)} {σ : St} {H : Hp} {s : Shared} {a : Addr} {y v : V} {u r : Value} {o : Option V} {A : Around} {E : Value -> Shared -> Prop}
theorem Inv.big (I : Inv X pins σ H s) : sysModules < s.heap.objs.size := by
  have h : mainGlobals < s.heap.objs.size := (I.mod.glob.keeps I.bk).lt
  exact Nat.lt_trans (by decide) h
theorem sg {Q : Value -> Shared -> Prop} (hu : A.units + 1 < cLine) (I : Inv X pins σ H s) (g : nY H a y (some v)) (ry : RelV y u) (h : ∀ w' s', Inv X pins σ H s' -> RelV v w' -> Q w' s') :
    wpAny (model X.prog X.w) A (getItem (.ref a) u) Q E s := by
  rcases g with ⟨kvs, k, e, ey, l⟩ | ⟨kvs, k, b, e, ey, eb, l⟩
  · subst ey
    obtain ⟨z, hd, vs, rel, dd⟩ := oK I.hok e
    obtain ⟨w', hw, rw'⟩ := jI.some_of (v := v) (o := valueAt vs k) (by rw [l]; exact rel.val k)
    exact wpAny_getItem_of (qN ry) dd.mapOf hw (h w' _ (I.tok _) rw')
  · subst ey
    cases (show u = Value.ref b from ry)
    obtain ⟨z, hd, xs, rel, dd⟩ := pN I.hok e
    obtain ⟨w', hw, rw'⟩ := jI.some_of (v := v) (o := (atKey xs k).map (·.2)) (by rw [l]; exact rel.val k)
    obtain ⟨p, hp, hp2⟩ := Option.map_eq_some_iff.mp hw
    refine wpAny_getItem_heap (tupleKind_room_in1 hu) (kL I.hok eb) dd hp ?_
    rw [hp2]
    exact h w' _ (I.tok _) rw'
theorem mP {h' : Heap} {t' : Nat} {ob : HO} (I : Inv X pins σ H s) (mu : Mut (H a)) (hs : Heap.SameBut a s.heap h') (he : ∃ q, h'.get? a = some q) (new : bO X.prog X.w (upd H a ob) h' a ob) :
    Inv X pins σ (upd H a ob) { s with heap := h', toks := t' } :=
  I.write (x := a) (e := a) mu (.inl rfl) (fun b q hb z => (hs.2 b hb).trans z) he new
theorem zp {P : Program} {w : World} {H' : Hp} {h' : Heap} {kvs : List (Key × V)} {vs : List (Key × Value)} (z : kvs.length <= sizeLine) (hd : (a == sysModules) = false) (rel : KV kvs vs) (dd : h'.DictOf (b8 P w) a vs) :
    bO P w H' h' a (.dK kvs) := ⟨z, hd, vs, rel, dd⟩
theorem su {H' : Hp} {Q : Unit -> Shared -> Prop} (hu : A.units + 1 < cLine) (I : Inv X pins σ H s) (g : uL H a y v H') (ry : RelV y u) (rv : RelV v r) (h : ∀ s', Inv X pins σ H' s' -> Q () s') :
    wpAny (model X.prog X.w) A (setItem (.ref a) u r) Q E s := by
  rcases g with ⟨kvs, k, e, ey, l, eH⟩ | ⟨kvs, k, b, e, ey, eb, l, eH⟩
  · subst ey eH
    obtain ⟨z, hd, vs, rel, dd⟩ := A0 I.hok e
    have hz : vs.length <= sizeLine := by rw [<- rel.length]; exact z
    have hl : (putK kvs k v).length <= sizeLine := by have := jT kvs k v; omega
    refine wpAny_setItem_pairs (hsz := hz) (qN ry) dd fun h' dd' hs => h _ ?_
    have he : ∃ q, h'.get? a = some q := let ⟨q, _, _, hq, _⟩ := dd'; ⟨q, hq⟩
    exact mP I (by rw [e]; exact True.intro) hs he (zp hl hd (rel.put k rv) dd')
  · subst ey eH
    cases (show u = Value.ref b from ry)
    obtain ⟨z, hd, xs, rel, dd⟩ := xo I.hok e
    have hz : xs.length <= sizeLine := by rw [<- Paired.length rel]; exact z
    have hl : (putK kvs k v).length <= sizeLine := by have := jT kvs k v; omega
    refine wpAny_setItem_heap (hsz := hz) (tupleKind_room_in1 hu) (kL I.hok eb) dd fun h' dd' hs => h _ ?_
    obtain ⟨q, es, ep, hq, h2, h3, h4, _, h5⟩ := dd'
    refine mP I (by rw [e]; exact True.intro) hs ⟨q, hq⟩ ⟨hl, hd, _, (rel.put k eb rv).keeps fun c ys ec => ?_, q, es, ep, hq, h2, h3, h4, h5⟩
    rw [aS (xE ec e (fun z => nomatch z))]
    exact ec
end
noncomputable def x_ (i : Expr) : Prop := ∀ ov iv, subscripted i false ov iv = operate [ov, iv] (getItem ov iv)
theorem wB {prog : Program} {w : World} {A : Around} {E : Value -> Shared -> Prop} {s : Shared} {env : Env} {value slice : Expr} {pos : Pos} {T id : String} {Q : Value -> Shared -> Prop}
    (hl : typeLookup (.type T) "__getitem__" = pure (some (.builtin id))) (hs : x_ slice)
    (h : wpAny (model prog w) A (eval value env) (fun o s₁ => wpAny (model prog w) A (eval slice env) (fun i s₂ => s₂.TypeIs o T /\ wpAny (model prog w) A (getItem o i) Q E s₂) E s₁) E s) :
    wpAny (model prog w) A (eval (.Subscript value slice pos) env) Q E s := by
  refine Subscript_ (wpAny_mono h (fun o s₁ h₁ => wpAny_mono h₁ (fun i s₂ h₂ => ?_) fun _ _ x => x) fun _ _ x => x)
  obtain ⟨hT, h₂⟩ := h₂
  unfold subscriptTail
  refine wpAny_bind ?_
  rw [getitemInPython_of_ne hT.not_modules]
  refine wpAny_bind (wpAny_specialOf hT hl ?_)
  have fin : wpAny (model prog w) A (subscripted slice false o i) (fun r s₃ => wpAny (model prog w) A (letTemporaryGo value o r >>= fun _ => pure r) Q E s₃) E s₂ := by
    rw [hs o i]
    exact wpAny_operating (wpAny_mono h₂ (fun r s₃ h₃ => wpAny_bind (wpAny_letTemporaryGo (wpAny_pure h₃))) fun _ _ x => x)
  first
    | exact wpAny_pure (wpAny_bind fin)
    | exact wpAny_bind (wpAny_pure (wpAny_bind fin))
    | exact wpAny_bind fin
theorem oq {X : Cx} {pins : List (Addr × Obj)} {σ : St} {H : Hp} {s : Shared} {a : Addr} {y : V} {o : Option V} (I : Inv X pins σ H s) (g : nY H a y o) : s.TypeIs (.ref a) "dict" := by
  rcases g with ⟨kvs, k, e, _, _⟩ | ⟨kvs, k, b, e, _, _, _⟩
  · obtain ⟨_, _, vs, _, dd⟩ := oK I.hok e
    exact dd.typeIs
  · obtain ⟨_, _, xs, _, dd⟩ := pN I.hok e
    exact dd.typeIs
noncomputable def zM (td ty : TE) : TE := fun σ H Q => td σ H fun x H1 => ty σ H1 fun y H2 => ∃ a v, x = .ref a /\ nY H2 a y (some v) /\ Q v H2
noncomputable def A7 (td ty tv : TE) : TS := fun D σ H => tv σ H fun v H1 => td σ H1 fun x H2 => ty σ H2 fun y H3 => ∃ a H4, x = .ref a /\ uL H3 a y v H4 /\ D.nx σ H4
section
variable {X : Cx} {o i e value : Expr} {pos pos' tpos : Pos} {td ty tv : TE}
theorem wb (hu : X.A.units + 1 < cLine) (ho : PE X o td) (hi : PE X i ty) (hs : x_ i) : PE X (.Subscript o i pos) (zM td ty) := by
  intro pins s σ H Q I h
  refine wB PySem.F.slot_dict_getitem.lookup hs (thn (ho pins s σ H _ I h) fun u s1 ⟨x, H1, I1, rx, q1⟩ => thn (hi pins s1 σ H1 _ I1 q1) fun iv s2 ⟨y, H2, I2, ry, a, v, ex, g, q2⟩ => ?_)
  subst ex
  obtain rfl : u = Value.ref a := rx
  exact ⟨oq I2 g, sg hu I2 g ry fun w' s3 I3 rw' => ⟨v, H2, I3, rw', q2⟩⟩
theorem vI (hu : X.A.units + 1 < cLine) (ho : PE X o td) (hi : PE X i ty) (hv : PE X value tv) (hs : swapsWith value (some (.Subscript o i pos')) pos.line X.env = pure false) :
    PS X (.Assign [.Subscript o i pos'] value pos) (A7 td ty tv) := by
  intro pins s σ H D I h
  refine wpAny_Assign_Subscript (thn (hv pins s σ H _ I h) fun r s1 ⟨v, H1, I1, rv, q1⟩ => thn (ho pins s1 σ H1 _ I1 q1) fun u s2 ⟨x, H2, I2, rx, q2⟩ => thn (hi pins s2 σ H2 _ I2 q2) fun iv s3 ⟨y, H3, I3, ry, a, H4, ex, g, q3⟩ => ?_) hs
  subst ex
  obtain rfl : u = Value.ref a := rx
  exact su hu I3 g ry rv fun s4 I4 => ⟨σ, H4, I4, q3⟩
end
theorem o5 {P : Program} {w : World} {H : Hp} (h : Heap) (hb : sysModules < h.objs.size) : bO P w H (h.push { cls := .type "dict", data := .dict #[] }) h.objs.size (.dT []) :=
  ⟨Nat.zero_le _, beq_eq_false_iff_ne.mpr (Ne.symm (Nat.ne_of_lt hb)), [], .nil, _, #[], 0, Heap.get?_push_size _ rfl, ⟨rfl, rfl, rfl⟩, rfl, rfl, List.nodup_nil⟩
noncomputable def y0 : TE := fun _ H Q => ∀ p, H p = none -> Q (.ref p) (upd H p (.dT []))
section
variable {X : Cx} {pos : Pos}
theorem uO : PE X (.Dict [] [] pos) y0 := fun pins s σ H Q I h =>
  wpAny_Dict_empty ⟨.ref s.heap.objs.size, _, I.laid (a := s.heap.objs.size) (o := .dT []) (t' := s.toks) (fun _ _ q => Heap.get?_push_of_some _ q) (Nat.le_refl _) (o5 s.heap I.big), rfl, h _ (I.hok.fresh (Nat.le_refl _))⟩
end
structure M2 (X : Cx) (o : Expr) (m : Str) (apos : Pos) (e f : Expr) (cpos : Pos) : Prop where
  base : attributeBase o m X.env (eval o X.env) = eval o X.env
  few : ((backTo cpos (starEach [e, f] X.env)).all (fun x => !x.1) && (backToKw cpos (keywordEach [] X.env)).all (fun x => x.1.isSome)
    && decide (([e, f] : List Expr).length + ([] : List Keyword).length + (if ([] : List Keyword).isEmpty then 0 else 1) < 30)) = true
  line : (apos.endLine == cpos.line) = true
  trees : backTo cpos (starEach [e, f] X.env) = [(false, eval e X.env), (false, eval f X.env)]
noncomputable def IsD (H : Hp) (a : Addr) : Prop := (∃ kvs, Rd H a (.dK kvs)) \/ ∃ kvs, Rd H a (.dT kvs)
theorem zb {X : Cx} {pins : List (Addr × Obj)} {σ : St} {H : Hp} {s : Shared} {a : Addr} (I : Inv X pins σ H s) (d : IsD H a) :
    s.TypeIs (.ref a) "dict" /\ (∀ b, Value.ref a = .ref b -> ∃ ob, s.heap.get? b = some ob /\ ob.dict = none) /\ (a == sysModules) = false := by
  rcases d with ⟨kvs, e⟩ | ⟨kvs, e⟩
  · obtain ⟨_, hd, vs, _, dd⟩ := oK I.hok e
    refine ⟨dd.typeIs, fun b q => ?_, hd⟩
    cases q
    obtain ⟨ob, _, _, h1, h2, _⟩ := dd
    exact ⟨ob, h1, h2.2.1⟩
  · obtain ⟨_, hd, xs, _, dd⟩ := pN I.hok e
    refine ⟨dd.typeIs, fun b q => ?_, hd⟩
    cases q
    obtain ⟨ob, _, _, h1, h2, _⟩ := dd
    exact ⟨ob, h1, h2.2.1⟩
section
variable {X : Cx} {pins : List (Addr × Obj)} {σ : St} {H : Hp} {s : Shared} {a : Addr} {y d : V} {u r : Value} {o : Option V} {A : Around} {E : Value -> Shared -> Prop}
theorem yn {Q : Value -> Shared -> Prop} (hu : A.units + 1 < cLine) (I : Inv X pins σ H s) (g : nY H a y o) (ry : RelV y u) (rd : RelV d r) (h : ∀ w' s', Inv X pins σ H s' -> RelV (o.getD d) w' -> Q w' s') :
    wpAny (model X.prog X.w) A (call (.builtin "dict.get") [.ref a, u, r]) Q E s := by
  rcases g with ⟨kvs, k, e, ey, l⟩ | ⟨kvs, k, b, e, ey, eb, l⟩
  · subst ey
    obtain ⟨z, hd, vs, rel, dd⟩ := oK I.hok e
    refine call_meetsIn PySem.F.slot_dict_get dd.typeIs PySem.F.entry_dict_get (PySem.F.args_dict_get_3 _ _ _) (meets_dict_get_default (b8 X.prog X.w) a (qN ry) hd r) ⟨_, dd.mapOf, h _ _ (I.tok _) ?_⟩
    rw [l]
    exact (rel.val k).getD rd
  · subst ey
    cases (show u = Value.ref b from ry)
    obtain ⟨z, hd, xs, rel, dd⟩ := pN I.hok e
    refine call_meetsIn PySem.F.slot_dict_get dd.typeIs PySem.F.entry_dict_get (PySem.F.args_dict_get_3 _ _ _) (meetsH_dict_get_default (tupleKind (b8 X.prog X.w)) a b hd r) ⟨tupleKind_room_in1 hu, k, xs, kL I.hok eb, dd, h _ _ (I.tok _) ?_⟩
    rw [l]
    exact (rel.val k).getD rd
end
noncomputable def zu (td ty tx : TE) : TE := fun σ H Q => td σ H fun x H1 => ∃ a, x = .ref a /\ IsD H1 a /\ ty σ H1 fun y H2 => tx σ H2 fun z H3 => ∃ o, nY H3 a y o /\ Q (o.getD z) H3
section
variable {X : Cx} {o e f : Expr} {apos cpos : Pos} {td ty tx : TE}
theorem tj (hu : X.A.units + 1 < cLine) (ho : PE X o td) (he : PE X e ty) (hf : PE X f tx) (m : M2 X o "get" apos e f cpos) : PE X (.Call (.Attribute o "get" apos) [e, f] [] cpos) (zu td ty tx) := by
  intro pins s σ H Q I h
  refine wpAny_Call_method m.base m.few m.line PySem.F.plainAttrs_dict PySem.F.slot_dict_get PySem.F.type_dict_get (thn (ho pins s σ H _ I h) fun u s1 ⟨x, H1, I1, rx, a, ex, d, q1⟩ => ?_)
  subst ex
  obtain rfl : u = Value.ref a := rx
  obtain ⟨t1, t2, _⟩ := zb I1 d
  refine ⟨t1, t2, ?_⟩
  rw [m.trees]
  refine Calls.callWith_builtin rfl (Calls.evalArgs_plain (Calls.spliced_cons (thn (he pins s1 σ H1 _ I1 q1) fun iv s2 ⟨y, H2, I2, ry, q2⟩ =>
    Calls.spliced_cons (thn (hf pins s2 σ H2 _ I2 q2) fun fv s3 ⟨z, H3, I3, rz, ov, g, q3⟩ => Calls.spliced_nil ?_))))
  exact yn hu I3 g ry rz fun w' s4 I4 rw' => ⟨_, H3, I4, rw', q3⟩
end
end L2
namespace L2.FE
open PySem PySem.Spec PyProof.Rows
inductive D where
  | non | bl (b : Bool) | int (i : Int) | str (x : Str) | tup (ds : List D) | frl (ds : List D) | ref (n : Nat) | fn (x : Str) | edic | scr (ds : List D) | exc (c : Str) (fs : List (Str × Int))
inductive O where
  | lst (ds : List D) | set (ns : List Int) | dic (kvs : List (Key × D)) | dit (kvs : List (List Key × D))
noncomputable abbrev Hh := List O
noncomputable abbrev En := List (Option D)
structure Xc where
  cls : Str
  fs : List (Str × Int)
inductive R (β : Type) where
  | ok (b : β) (h : Hh)
  | err (x : Xc) (h : Hh)
  | bad
noncomputable def R.bind {β γ : Type} (r : R β) (f : β -> Hh -> R γ) : R γ := match r with
  | .ok b h => f b h
  | .err x h => .err x h
  | .bad => .bad
inductive Fl where
  | nx (e : En) | bk (e : En) | ct (e : En) | rt (d : D)
noncomputable abbrev ME := En -> Hh -> R D
noncomputable abbrev MT := En -> Hh -> R Bool
noncomputable abbrev MA := En -> Hh -> R (List D)
noncomputable abbrev MS := En -> Hh -> R Fl
noncomputable def Fro (K : PySem.W.Frag) (H : Hp) (p : Addr) (vs : List V) : Prop :=
  (∃ o, H p = some (.frz o (.lst vs))) \/ ∃ (o : Obj) (its : Array Value) (n : Nat), K.lookup p = some o /\ o.cls = .type "list" /\ o.dict = none /\ o.data = .seq its n /\ its.size <= sizeLine /\ Vals vs its.toList
theorem Fro.sq {K : PySem.W.Frag} {H : Hp} {p : Addr} {vs : List V} (h : Fro K H p vs) : SqL K H p vs := by
  rcases h with ⟨o, h⟩ | h
  · exact .inl (.inr ⟨o, h⟩)
  · exact .inr h
noncomputable def Fr1 (H : Hp) (p : Addr) (vs : List V) : Prop := ∃ o, H p = some (.frz o (.lst vs))
theorem Fr1.fro {K : PySem.W.Frag} {H : Hp} {p : Addr} {vs : List V} (h : Fr1 H p vs) : Fro K H p vs := .inl h
theorem Fr1.sq {K : PySem.W.Frag} {H : Hp} {p : Addr} {vs : List V} (h : Fr1 H p vs) : SqL K H p vs := let ⟨o, h⟩ := h; .inl (.inr ⟨o, h⟩)
theorem Fr1.rd {H : Hp} {p : Addr} {vs : List V} (h : Fr1 H p vs) : Rd H p (.lst vs) := .inr h
noncomputable def AtO (p : Addr) (o : Obj) : HO := .frz o (.ext fun h => h.get? p = some o)
noncomputable def XFs (H : Hp) (dc : Option Addr) (fs : List (Str × Int)) : Prop := (dc = none /\ fs = []) \/ ∃ dx od, dc = some dx /\ H dx = some (.frz od (.xd (fs.map fun x => (x.1, V.int x.2))))
mutual
inductive aE (K : PySem.W.Frag) (g : Str -> Option Addr) (α : List Addr) (H : Hp) : D -> V -> Prop where
  | non : aE K g α H .non .non
  | bl (b) : aE K g α H (.bl b) (.bl b)
  | int (i) : aE K g α H (.int i) (.int i)
  | str (x) : aE K g α H (.str x) (.str x)
  | ref {n p} : α[n]? = some p -> aE K g α H (.ref n) (.ref p)
  | tup {ds p vs} : H p = some (.tup vs) -> aw K g α H ds vs -> aE K g α H (.tup ds) (.ref p)
  | frl {ds p vs} : Fr1 H p vs -> aw K g α H ds vs -> aE K g α H (.frl ds) (.ref p)
  | scr {ds p vs} : Fro K H p vs -> aw K g α H ds vs -> aE K g α H (.scr ds) (.ref p)
  | fn {x f} : g x = some f -> aE K g α H (.fn x) (.ref f)
  | edic {p o} : H p = some (.frz o (.dK [])) -> aE K g α H .edic (.ref p)
  | exc {c C p o fs} : g c = some C -> H p = some (AtO p o) -> o.cls = .ref C -> (∃ vs, o.data = .fields vs) -> XFs H o.dict fs -> aE K g α H (.exc c fs) (.ref p)
inductive aw (K : PySem.W.Frag) (g : Str -> Option Addr) (α : List Addr) (H : Hp) : List D -> List V -> Prop where
  | nil : aw K g α H [] []
  | cons {d v ds vs} : aE K g α H d v -> aw K g α H ds vs -> aw K g α H (d :: ds) (v :: vs)
end
structure Ex0 (K : PySem.W.Frag) (α : List Addr) (H : Hp) (α' : List Addr) (H' : Hp) : Prop where
  pre : α <+: α'
  tup : ∀ (p : Addr) (xs : List V), H p = some (.tup xs) -> H' p = some (.tup xs)
  frz : ∀ (p : Addr) (o : Obj) (u : HO), H p = some (.frz o u) -> H' p = some (.frz o u)
theorem Ex0.fro {K : PySem.W.Frag} {α α' : List Addr} {H H' : Hp} (e : Ex0 K α H α' H') (p : Addr) (xs : List V) (h : Fro K H p xs) : Fro K H' p xs := by
  rcases h with ⟨o, h⟩ | h
  · exact .inl ⟨o, e.frz _ _ _ h⟩
  · exact .inr h
theorem Ex0.fr1 {K : PySem.W.Frag} {α α' : List Addr} {H H' : Hp} (e : Ex0 K α H α' H') (p : Addr) (xs : List V) (h : Fr1 H p xs) : Fr1 H' p xs := let ⟨o, h⟩ := h; ⟨o, e.frz _ _ _ h⟩
structure Ext (K : PySem.W.Frag) (α : List Addr) (H : Hp) (α' : List Addr) (H' : Hp) : Prop extends Ex0 K α H α' H' where
  keep : ∀ p o, H p = some o -> p ∉ α -> H' p = some o
  new : ∀ p, p ∈ α' -> p ∉ α -> H p = none
section
variable {K : PySem.W.Frag} {g : Str -> Option Addr} {α α' α'' : List Addr} {H H' H'' : Hp}
theorem Ex0.refl : Ex0 K α H α H := ⟨List.prefix_refl _, fun _ _ h => h, fun _ _ _ h => h⟩
theorem Ex0.trans (a : Ex0 K α H α' H') (b : Ex0 K α' H' α'' H'') : Ex0 K α H α'' H'' := ⟨a.pre.trans b.pre, fun p xs h => b.tup p xs (a.tup p xs h), fun p o u h => b.frz p o u (a.frz p o u h)⟩
theorem Ext.refl : Ext K α H α H := ⟨.refl, fun _ _ h _ => h, fun _ h n => absurd h n⟩
theorem Ext.trans (a : Ext K α H α' H') (b : Ext K α' H' α'' H'') : Ext K α H α'' H'' := ⟨a.toEx0.trans b.toEx0, fun p o h n => b.keep p o (a.keep p o h n) (fun z => by rw [a.new p z n] at h; cases h), fun p z n => by
    by_cases q : p ∈ α'
    · exact a.new p q n
    · have := b.new p z q
      cases e : H p with
      | none => rfl
      | some o => rw [a.keep p o e n] at this; cases this⟩
theorem Ex0.get (e : Ex0 K α H α' H') {n : Nat} {p : Addr} (h : α[n]? = some p) : α'[n]? = some p := by
  obtain ⟨t, rfl⟩ := e.pre
  have hl : n < α.length := by
    by_cases hl : n < α.length
    · exact hl
    · rw [List.getElem?_eq_none (by omega)] at h; cases h
  rw [List.getElem?_append_left hl]; exact h
mutual
theorem aE.ex0 (e : Ex0 K α H α' H') : ∀ {d : D} {v : V}, aE K g α H d v -> aE K g α' H' d v
  | _, _, .non => .non
  | _, _, .bl b => .bl b
  | _, _, .int i => .int i
  | _, _, .str x => .str x
  | _, _, .ref h => .ref (e.get h)
  | _, _, .tup h r => .tup (e.tup _ _ h) (aw.ex0 e r)
  | _, _, .frl h r => .frl (e.fr1 _ _ h) (aw.ex0 e r)
  | _, _, .scr h r => .scr (e.fro _ _ h) (aw.ex0 e r)
  | _, _, .fn h => .fn h
  | _, _, .edic h => .edic (e.frz _ _ _ h)
  | _, _, .exc hg h hc hd hf => .exc hg (e.frz _ _ _ h) hc hd (hf.elim .inl fun ⟨dx, od, a, b⟩ => .inr ⟨dx, od, a, e.frz _ _ _ b⟩)
theorem aw.ex0 (e : Ex0 K α H α' H') : ∀ {ds : List D} {vs : List V}, aw K g α H ds vs -> aw K g α' H' ds vs
  | _, _, .nil => .nil
  | _, _, .cons r t => .cons (aE.ex0 e r) (aw.ex0 e t)
end
theorem aE.ext (e : Ext K α H α' H') {d : D} {v : V} (r : aE K g α H d v) : aE K g α' H' d v := r.ex0 e.toEx0
theorem aw.ext (e : Ext K α H α' H') {d : List D} {v : List V} (r : aw K g α H d v) : aw K g α' H' d v := r.ex0 e.toEx0
theorem aw.length : ∀ {ds : List D} {vs : List V}, aw K g α H ds vs -> ds.length = vs.length
  | _, _, .nil => rfl
  | _, _, .cons _ t => by simp [aw.length t]
theorem aw.append : ∀ {ds es : List D} {vs us : List V}, aw K g α H ds vs -> aw K g α H es us -> aw K g α H (ds ++ es) (vs ++ us)
  | _, _, _, _, .nil, s => s
  | _, _, _, _, .cons r t, s => .cons r (aw.append t s)
theorem aw.get : ∀ {ds : List D} {vs : List V} {i : Nat} {d : D}, aw K g α H ds vs -> ds[i]? = some d -> ∃ v, vs[i]? = some v /\ aE K g α H d v
  | _, _, _, _, .nil, e => by simp at e
  | _, _, 0, _, .cons r _, e => by simp at e; subst e; exact ⟨_, rfl, r⟩
  | _, _, i + 1, d, .cons _ t, e => by
    obtain ⟨u, h1, h2⟩ := aw.get (i := i) (d := d) t (by simpa using e)
    exact ⟨u, by simpa using h1, h2⟩
theorem aw.set {d : D} {v : V} (r : aE K g α H d v) : ∀ {ds : List D} {vs : List V} (i : Nat), aw K g α H ds vs -> aw K g α H (ds.set i d) (vs.set i v)
  | _, _, _, .nil => .nil
  | _, _, 0, .cons _ t => .cons r t
  | _, _, i + 1, .cons q t => .cons q (aw.set r i t)
theorem aw.take : ∀ {ds : List D} {vs : List V} (n : Nat), aw K g α H ds vs -> aw K g α H (ds.take n) (vs.take n)
  | _, _, 0, _ => .nil
  | _, _, _ + 1, .nil => .nil
  | _, _, n + 1, .cons r t => .cons r (aw.take n t)
theorem aw.drop : ∀ {ds : List D} {vs : List V} (n : Nat), aw K g α H ds vs -> aw K g α H (ds.drop n) (vs.drop n)
  | _, _, 0, r => r
  | _, _, _ + 1, .nil => .nil
  | _, _, n + 1, .cons _ t => aw.drop n t
theorem aw.ints (ns : List Int) : aw K g α H (ns.map D.int) (ns.map V.int) := by
  induction ns with
  | nil => exact .nil
  | cons n r ih => exact .cons (.int n) ih
theorem aw.uo : ∀ {ns : List Int} {vs : List V}, aw K g α H (ns.map D.int) vs -> vs = ns.map V.int
  | [], _, .nil => rfl
  | n :: r, _, .cons (.int _) t => by rw [aw.uo t]; rfl
theorem aw.flat {ds : List D} {vs : List V} (r : aw K g α H ds vs) : ∀ k, aw K g α H (List.replicate k ds).flatten (List.replicate k vs).flatten
  | 0 => .nil
  | k + 1 => by rw [List.replicate_succ, List.replicate_succ, List.flatten_cons, List.flatten_cons]; exact r.append (aw.flat r k)
end
noncomputable def OAt (K : PySem.W.Frag) (g : Str -> Option Addr) (α : List Addr) (H : Hp) (p : Addr) : O -> Prop
  | .lst ds => ∃ vs, H p = some (.lst vs) /\ aw K g α H ds vs
  | .set ns => H p = some (.set (fun k => ns.any (· == k)) ns.length)
  | .dic kvs => ∃ kws, H p = some (.dK kws) /\ Paired (fun (a : Key × D) (b : Key × V) => a.1 = b.1 /\ aE K g α H a.2 b.2) kvs kws
  | .dit kvs => ∃ kws, H p = some (.dT kws) /\ Paired (fun (a : List Key × D) (b : List Key × V) => a.1 = b.1 /\ aE K g α H a.2 b.2) kvs kws
structure aU (K : PySem.W.Frag) (g : Str -> Option Addr) (α : List Addr) (H : Hp) (h : Hh) : Prop where
  len : α.length = h.length
  inj : ∀ (n m : Nat) (p : Addr), α[n]? = some p -> α[m]? = some p -> n = m
  here : ∀ (n : Nat) (p : Addr) (o : O), α[n]? = some p -> h[n]? = some o -> OAt K g α H p o
section
variable {K : PySem.W.Frag} {g : Str -> Option Addr} {α α' : List Addr} {H H' : Hp} {h : Hh}
theorem Paired.Ag {kvs : List (Key × D)} {kws : List (Key × V)} (e : Ex0 K α H α' H') (r : Paired (fun (a : Key × D) (b : Key × V) => a.1 = b.1 /\ aE K g α H a.2 b.2) kvs kws) :
    Paired (fun (a : Key × D) (b : Key × V) => a.1 = b.1 /\ aE K g α' H' a.2 b.2) kvs kws := L2.Paired.uX r fun _ _ q => ⟨q.1, q.2.ex0 e⟩
theorem Paired.Ae {kvs : List (List Key × D)} {kws : List (List Key × V)} (e : Ex0 K α H α' H') (r : Paired (fun (a : List Key × D) (b : List Key × V) => a.1 = b.1 /\ aE K g α H a.2 b.2) kvs kws) :
    Paired (fun (a : List Key × D) (b : List Key × V) => a.1 = b.1 /\ aE K g α' H' a.2 b.2) kvs kws := L2.Paired.uX r fun _ _ q => ⟨q.1, q.2.ex0 e⟩
theorem OAt.isS {p : Addr} {o : O} (h : OAt K g α H p o) : ∃ u, H p = some u /\ (∀ ys, u ≠ .tup ys) /\ ∀ w ys, u ≠ .frz w ys := by
  cases o with
  | lst ds => obtain ⟨vs, e, _⟩ := h; exact ⟨_, e, fun _ z => (nomatch z), fun _ _ z => nomatch z⟩
  | set n => exact ⟨_, h, fun _ z => (nomatch z), fun _ _ z => nomatch z⟩
  | dic kvs => obtain ⟨vs, e, _⟩ := h; exact ⟨_, e, fun _ z => (nomatch z), fun _ _ z => nomatch z⟩
  | dit kvs => obtain ⟨vs, e, _⟩ := h; exact ⟨_, e, fun _ z => (nomatch z), fun _ _ z => nomatch z⟩
theorem aU.mem (r : aU K g α H h) {p : Addr} (hp : p ∈ α) : ∃ u, H p = some u /\ (∀ ys, u ≠ .tup ys) /\ ∀ w ys, u ≠ .frz w ys := by
  obtain ⟨n, hn, e⟩ := List.getElem_of_mem hp
  have hn' : n < h.length := by rw [<- r.len]; exact hn
  exact (r.here n p _ (by rw [List.getElem?_eq_getElem hn, e]) (List.getElem?_eq_getElem hn')).isS
theorem OAt.ex0 {p : Addr} {o : O} (e : Ex0 K α H α' H') (h : OAt K g α H p o) (k : ∀ u, H p = some u -> H' p = some u) : OAt K g α' H' p o := by
  cases o with
  | lst ds => obtain ⟨vs, a, r⟩ := h; exact ⟨vs, k _ a, r.ex0 e⟩
  | set n => exact k _ h
  | dic kvs => obtain ⟨kws, a, r⟩ := h; exact ⟨kws, k _ a, Paired.Ag e r⟩
  | dit kvs => obtain ⟨kws, a, r⟩ := h; exact ⟨kws, k _ a, Paired.Ae e r⟩
noncomputable def vP (H : Hp) (p : Addr) : Prop := H p = none \/ ∃ u, H p = some u /\ (∀ ys, u ≠ .tup ys) /\ ∀ w ys, u ≠ .frz w ys
theorem Ex0.upd {p : Addr} {o : HO} (n : vP H p) : Ex0 K α H α (upd H p o) := by
  have ne : ∀ q u, H q = some u -> ((∃ ys, u = .tup ys) \/ ∃ w ys, u = .frz w ys) -> q ≠ p := by
    rintro q u e z rfl
    rcases n with n | ⟨u', e', n1, n2⟩
    · rw [e] at n; cases n
    · rw [e] at e'; cases e'
      rcases z with ⟨ys, z⟩ | ⟨w, ys, z⟩
      · exact n1 _ z
      · exact n2 _ _ z
  refine ⟨List.prefix_refl _, fun q xs h => ?_, fun q o u h => ?_⟩
  · rw [aS (ne q _ h (.inl ⟨_, rfl⟩))]; exact h
  · rw [aS (ne q _ h (.inr ⟨_, _, rfl⟩))]; exact h
theorem Ex0.more (e : Ex0 K α H α H') (l : List Addr) : Ex0 K α H (α ++ l) H' := ⟨List.prefix_append _ _, e.tup, e.frz⟩
theorem Ext.fresh {p : Addr} {o : HO} (n : H p = none) : Ext K α H α (upd H p o) := ⟨Ex0.upd (.inl n), fun q u h _ => by rw [aS (cn h n)]; exact h, fun _ z m => absurd z m⟩
theorem Ext.push {p : Addr} {o : HO} (n : H p = none) : Ext K α H (α ++ [p]) (upd H p o) := ⟨(Ex0.upd (.inl n)).more _, fun q u h _ => by rw [aS (cn h n)]; exact h, fun q z m => by
  rcases List.mem_append.mp z with z | z
  · exact absurd z m
  · rw [List.mem_singleton.mp z]; exact n⟩
theorem aU.off {p : Addr} {o : HO} (r : aU K g α H h) (n : vP H p) (m : p ∉ α) : aU K g α (upd H p o) h := by
  refine ⟨r.len, r.inj, fun k q u a b => (r.here k q u a b).ex0 (Ex0.upd n) fun w e => ?_⟩
  rw [aS]; exact e
  rintro rfl; exact m (List.mem_of_getElem? a)
theorem aU.free (r : aU K g α H h) {p : Addr} (n : H p = none) : p ∉ α := fun z => by
  obtain ⟨u, e, _⟩ := r.mem z
  rw [n] at e; cases e
theorem aU.grow {p : Addr} {o : HO} (r : aU K g α H h) (n : H p = none) : aU K g α (upd H p o) h := r.off (.inl n) (r.free n)
theorem aU.adopt {p : Addr} {u : O} (r : aU K g α H h) (n : p ∉ α) (a : OAt K g (α ++ [p]) H p u) : aU K g (α ++ [p]) H (h ++ [u]) := by
  have old : ∀ {m : Nat} {q : Addr}, (α ++ [p])[m]? = some q -> (α[m]? = some q) \/ (m = α.length /\ q = p) := by
    intro m q h1
    by_cases hm : m < α.length
    · rw [List.getElem?_append_left hm] at h1
      exact .inl h1
    · have hl : m < (α ++ [p]).length := by
        by_cases hl : m < (α ++ [p]).length
        · exact hl
        · rw [List.getElem?_eq_none (by omega)] at h1; cases h1
      have e : m = α.length := by simp at hl; omega
      subst e
      rw [List.getElem?_append_right (Nat.le_refl _)] at h1
      simp at h1
      exact .inr ⟨rfl, h1.symm⟩
  refine ⟨by simp [r.len], fun m k q h1 h2 => ?_, fun m q w h1 h2 => ?_⟩
  · rcases old h1 with a1 | ⟨e1, e2⟩
    · rcases old h2 with a2 | ⟨e3, e4⟩
      · exact r.inj m k q a1 a2
      · rw [e4] at a1; exact absurd (List.mem_of_getElem? a1) n
    · rcases old h2 with a2 | ⟨e3, e4⟩
      · rw [e2] at a2; exact absurd (List.mem_of_getElem? a2) n
      · rw [e1, e3]
  · rcases old h1 with a1 | ⟨e1, e2⟩
    · have hm : m < α.length := by
        by_cases hl : m < α.length
        · exact hl
        · rw [List.getElem?_eq_none (by omega)] at a1; cases a1
      rw [List.getElem?_append_left (by rw [<- r.len]; exact hm)] at h2
      exact (r.here m q w a1 h2).ex0 (Ex0.refl.more _) fun _ z => z
    · subst e1 e2
      rw [r.len, List.getElem?_append_right (Nat.le_refl _)] at h2
      simp at h2
      subst h2
      exact a
theorem aU.push {p : Addr} {o : HO} {u : O} (r : aU K g α H h) (n : H p = none) (a : OAt K g (α ++ [p]) (upd H p o) p u) : aU K g (α ++ [p]) (upd H p o) (h ++ [u]) := (r.grow n).adopt (r.free n) a
theorem Ext.write {p : Addr} {o : HO} {k : Nat} (r : aU K g α H h) (hk : α[k]? = some p) : Ext K α H α (upd H p o) :=
  ⟨Ex0.upd (.inr (r.mem (List.mem_of_getElem? hk))), fun q u h m => by
    rw [aS]; exact h
    rintro rfl; exact m (List.mem_of_getElem? hk), fun _ z m => absurd z m⟩
theorem aU.write {p : Addr} {o : HO} {u' : O} {k : Nat} (r : aU K g α H h) (hk : α[k]? = some p) (a : OAt K g α (upd H p o) p u') : aU K g α (upd H p o) (h.set k u') := by
  have x : Ext K α H α (upd H p o) := Ext.write r hk
  refine ⟨by simp [r.len], r.inj, fun m q w h1 h2 => ?_⟩
  rw [List.getElem?_set] at h2
  by_cases hm : k = m
  · subst hm
    rw [if_pos rfl] at h2
    split at h2
    · cases h2; rw [h1] at hk; cases hk; exact a
    · cases h2
  · rw [if_neg hm] at h2
    refine (r.here m q w h1 h2).ex0 x.toEx0 fun z e => ?_
    rw [aS]; exact e
    rintro rfl; exact hm (r.inj _ _ _ hk h1)
end
noncomputable abbrev GG := Str -> Option Addr
noncomputable abbrev EE := List Addr -> Hp -> Xc -> Prop
structure jL (K : PySem.W.Frag) (g : GG) (α : List Addr) (H : Hp) (env : En) (σ : St) : Prop where
  len : env.length = σ.length
  vars : ∀ (i : Nat) (d : D), env[i]? = some (some d) -> ∃ v, σ[i]? = some (some v) /\ aE K g α H d v
structure cU (K : PySem.W.Frag) (g : GG) (α : List Addr) (H : Hp) (env : En) (σ : St) (h : Hh) : Prop where
  heap : aU K g α H h
  vs : jL K g α H env σ
noncomputable def WQ (K : PySem.W.Frag) (g : GG) (ε : EE) (α : List Addr) (H : Hp) {β : Type} (r : R β) (k : β -> Hh -> Prop) : Prop := match r with
  | .ok b h => k b h
  | .err x h => ∀ α' H', Ext K α H α' H' -> aU K g α' H' h -> ε α' H' x
  | .bad => False
section
variable {K : PySem.W.Frag} {g : GG} {ε : EE} {α α' : List Addr} {H H' : Hp} {β γ : Type}
theorem WQ.bind {r : R β} {f : β -> Hh -> R γ} {k : γ -> Hh -> Prop} (w : WQ K g ε α H (r.bind f) k) : WQ K g ε α H r fun b h => WQ K g ε α H (f b h) k := by
  cases r <;> exact w
theorem WQ.ext {r : R β} {k : β -> Hh -> Prop} (e : Ext K α H α' H') (w : WQ K g ε α H r k) : WQ K g ε α' H' r k := by
  cases r with
  | ok b h => exact w
  | err x h => exact fun a b c d => w a b (e.trans c) d
  | bad => exact w
theorem WQ.mono {r : R β} {k k' : β -> Hh -> Prop} (w : WQ K g ε α H r k) (m : ∀ b h, r = .ok b h -> k b h -> k' b h) : WQ K g ε α H r k' := by
  cases r with
  | ok b h => exact m b h rfl w
  | err x h => exact w
  | bad => exact w
theorem jL.ext {env : En} {σ : St} (v : jL K g α H env σ) (e : Ext K α H α' H') : jL K g α' H' env σ :=
  ⟨v.len, fun i d h => let ⟨x, a, b⟩ := v.vars i d h; ⟨x, a, b.ext e⟩⟩
theorem cU.ext {env : En} {σ : St} {h h' : Hh} (v : cU K g α H env σ h) (e : Ext K α H α' H') (r : aU K g α' H' h') : cU K g α' H' env σ h' := ⟨r, v.vs.ext e⟩
theorem jL.set {env : En} {σ : St} {i : Nat} {d : D} {x : V} (v : jL K g α H env σ) (r : aE K g α H d x) : jL K g α H (env.set i (some d)) (σ.set i (some x)) := by
  refine ⟨by simp [v.len], fun j e h => ?_⟩
  rw [List.getElem?_set] at h ⊢
  by_cases hj : i = j
  · subst hj
    rw [if_pos rfl] at h ⊢
    have hl := v.len
    split at h
    · rw [if_pos (by omega)]
      cases h
      exact ⟨x, rfl, r⟩
    · cases h
  · rw [if_neg hj] at h ⊢
    exact v.vars j e h
end
noncomputable def aK (K : PySem.W.Frag) (g : GG) (α : List Addr) (H : Hp) (Q : VK) : D -> Hh -> Prop := fun d h => ∀ v H' α', Ext K α H α' H' -> aU K g α' H' h -> aE K g α' H' d v -> Q v H'
noncomputable def jQ (K : PySem.W.Frag) (g : GG) (α : List Addr) (H : Hp) (Q : Bool -> Hp -> Prop) : Bool -> Hh -> Prop := fun b h => ∀ H' α', Ext K α H α' H' -> aU K g α' H' h -> Q b H'
noncomputable def Ac (K : PySem.W.Frag) (g : GG) (α : List Addr) (H : Hp) (Q : List V -> Hp -> Prop) : List D -> Hh -> Prop := fun ds h => ∀ vs H' α', Ext K α H α' H' -> aU K g α' H' h -> aw K g α' H' ds vs -> Q vs H'
noncomputable def cv (K : PySem.W.Frag) (g : GG) (α : List Addr) (H : Hp) (E : Ends) : Fl -> Hh -> Prop := fun fl h => ∀ H' α', Ext K α H α' H' -> aU K g α' H' h -> match fl with
  | .nx e => ∀ σ, jL K g α' H' e σ -> E.nx σ H'
  | .bk e => ∀ σ, jL K g α' H' e σ -> E.bk σ H'
  | .ct e => ∀ σ, jL K g α' H' e σ -> E.ct σ H'
  | .rt d => ∀ v, aE K g α' H' d v -> E.rt v H'
noncomputable def tM (K : PySem.W.Frag) (g : GG) (ε : EE) (m : ME) : TE := fun σ H Q => ∃ α env h, cU K g α H env σ h /\ WQ K g ε α H (m env h) (aK K g α H Q)
noncomputable def tMT (K : PySem.W.Frag) (g : GG) (ε : EE) (m : MT) : TT := fun σ H Q => ∃ α env h, cU K g α H env σ h /\ WQ K g ε α H (m env h) (jQ K g α H Q)
noncomputable def tMA (K : PySem.W.Frag) (g : GG) (ε : EE) (m : MA) : TA := fun σ H Q => ∃ α env h, cU K g α H env σ h /\ WQ K g ε α H (m env h) (Ac K g α H Q)
noncomputable def tMS (K : PySem.W.Frag) (g : GG) (ε : EE) (m : MS) : TS := fun E σ H => ∃ α env h, cU K g α H env σ h /\ WQ K g ε α H (m env h) (cv K g α H E)
section
variable {K : PySem.W.Frag} {g : GG} {ε : EE} {α α' : List Addr} {H H' : Hp} {env : En} {σ : St} {h : Hh}
theorem aK.ext {Q : VK} {d : D} (e : Ext K α H α' H') (p : aK K g α H Q d h) : aK K g α' H' Q d h := fun v H2 α2 e2 r rd => p v H2 α2 (e.trans e2) r rd
theorem jQ.ext {Q : Bool -> Hp -> Prop} {d : Bool} (e : Ext K α H α' H') (p : jQ K g α H Q d h) : jQ K g α' H' Q d h := fun H2 α2 e2 r => p H2 α2 (e.trans e2) r
theorem cv.ext {E : Ends} {d : Fl} (e : Ext K α H α' H') (p : cv K g α H E d h) : cv K g α' H' E d h := fun H2 α2 e2 r => p H2 α2 (e.trans e2) r
theorem WQ.post {Q : VK} {r : R D} (e : Ext K α H α' H') (w : WQ K g ε α H r (aK K g α H Q)) : WQ K g ε α' H' r (aK K g α' H' Q) := (w.ext e).mono fun _ _ _ p => p.ext e
theorem WQ.AB {Q : Bool -> Hp -> Prop} {r : R Bool} (e : Ext K α H α' H') (w : WQ K g ε α H r (jQ K g α H Q)) : WQ K g ε α' H' r (jQ K g α' H' Q) := (w.ext e).mono fun _ _ _ p => p.ext e
theorem WQ.qL {E : Ends} {r : R Fl} (e : Ext K α H α' H') (w : WQ K g ε α H r (cv K g α H E)) : WQ K g ε α' H' r (cv K g α' H' E) := (w.ext e).mono fun _ _ _ p => p.ext e
theorem tM.use {m : ME} {Q : VK} {k : D -> Hh -> Prop} (s : cU K g α H env σ h) (w : WQ K g ε α H (m env h) k)
    (q : ∀ d h' v H' α', Ext K α H α' H' -> cU K g α' H' env σ h' -> aE K g α' H' d v -> k d h' -> Q v H') : tM K g ε m σ H Q :=
  ⟨α, env, h, s, w.mono fun d h' _ kk v H' α' e r rd => q d h' v H' α' e (s.ext e r) rd kk⟩
theorem tMT.use {m : MT} {Q : Bool -> Hp -> Prop} {k : Bool -> Hh -> Prop} (s : cU K g α H env σ h) (w : WQ K g ε α H (m env h) k)
    (q : ∀ d h' H' α', Ext K α H α' H' -> cU K g α' H' env σ h' -> k d h' -> Q d H') : tMT K g ε m σ H Q :=
  ⟨α, env, h, s, w.mono fun d h' _ kk H' α' e r => q d h' H' α' e (s.ext e r) kk⟩
theorem tMA.use {m : MA} {Q : List V -> Hp -> Prop} {k : List D -> Hh -> Prop} (s : cU K g α H env σ h) (w : WQ K g ε α H (m env h) k)
    (q : ∀ d h' v H' α', Ext K α H α' H' -> cU K g α' H' env σ h' -> aw K g α' H' d v -> k d h' -> Q v H') : tMA K g ε m σ H Q :=
  ⟨α, env, h, s, w.mono fun d h' _ kk v H' α' e r rd => q d h' v H' α' e (s.ext e r) rd kk⟩
theorem aK.now {Q : VK} {d : D} {v : V} (p : aK K g α H Q d h) (r : aU K g α H h) (rd : aE K g α H d v) : Q v H := p v H α Ext.refl r rd
end
theorem PE.imp {X : Cx} {e : Expr} {t t' : TE} (h : PE X e t) (i : ∀ σ H Q, t' σ H Q -> t σ H Q) : PE X e t' := fun pins s σ H Q I w => h pins s σ H Q I (i σ H Q w)
theorem PT.imp {X : Cx} {e : Expr} {t t' : TT} (h : PT X e t) (i : ∀ σ H Q, t' σ H Q -> t σ H Q) : PT X e t' := fun pins s σ H Q I w => h pins s σ H Q I (i σ H Q w)
theorem PW.imp {X : Cx} {e : Expr} {t t' : TT} (h : PW X e t) (i : ∀ σ H Q, t' σ H Q -> t σ H Q) : PW X e t' := fun wh pins s σ H Q I w => h wh pins s σ H Q I (i σ H Q w)
theorem PA.imp {X : Cx} {e : List Expr} {t t' : TA} (h : PA X e t) (i : ∀ σ H Q, t' σ H Q -> t σ H Q) : PA X e t' := fun p pins s σ H Q I w => h p pins s σ H Q I (i σ H Q w)
theorem PS.imp {X : Cx} {e : Stmt} {t t' : TS} (h : PS X e t) (i : ∀ σ H Q, t' σ H Q -> t σ H Q) : PS X e t' := fun pins s σ H Q I w => h pins s σ H Q I (i Q σ H w)
theorem PSs.imp {X : Cx} {e : List Stmt} {t t' : TS} (h : PSs X e t) (i : ∀ σ H Q, t' σ H Q -> t σ H Q) : PSs X e t' := fun pins s σ H Q I w => h pins s σ H Q I (i Q σ H w)
noncomputable def ag (i : Nat) : ME := fun env h => match env[i]? with
  | some (some d) => .ok d h
  | _ => .bad
noncomputable def cC (d : D) : ME := fun _ h => .ok d h
noncomputable def ak (f : D -> D -> Hh -> R D) (a b : ME) : ME := fun env h => (a env h).bind fun x h1 => (b env h1).bind fun y h2 => f x y h2
noncomputable def cUn (f : D -> Hh -> R D) (a : ME) : ME := fun env h => (a env h).bind fun x h1 => f x h1
noncomputable def aq : MA := fun _ h => .ok [] h
noncomputable def aa (a : ME) (r : MA) : MA := fun env h => (a env h).bind fun x h1 => (r env h1).bind fun xs h2 => .ok (x :: xs) h2
noncomputable def ah (f : List D -> Hh -> R D) (a : MA) : ME := fun env h => (a env h).bind fun xs h1 => f xs h1
noncomputable def aZ (f : D -> Hh -> R Bool) (a : ME) : MT := fun env h => (a env h).bind fun x h1 => f x h1
noncomputable def kR (a : MT) : MT := fun env h => (a env h).bind fun b h1 => .ok (!b) h1
noncomputable def jd (a b : MT) : MT := fun env h => (a env h).bind fun x h1 => if x = true then b env h1 else .ok false h1
noncomputable def vY (a b : MT) : MT := fun env h => (a env h).bind fun x h1 => if x = true then .ok true h1 else b env h1
noncomputable def cIf (c : MT) (a b : ME) : ME := fun env h => (c env h).bind fun x h1 => if x = true then a env h1 else b env h1
noncomputable def asB : D -> Hh -> R Bool
  | .bl b, h => .ok b h
  | _, _ => .bad
noncomputable def jV (a b : ME) : ME := fun env h => (a env h).bind fun x h1 => (asB x h1).bind fun k h2 => if k = true then b env h2 else .ok (.bl false) h2
noncomputable def tH (a : ME) : ME := fun env h => (a env h).bind fun x h1 => (asB x h1).bind fun k h2 => .ok (.bl (!k)) h2
noncomputable def mY (f f' : D -> D -> Hh -> R D) (a b c : ME) : ME := fun env h => (a env h).bind fun x h1 => (b env h1).bind fun y h2 => (f x y h2).bind fun z h3 => (asB z h3).bind fun k h4 =>
  if k = true then (c env h4).bind fun w h5 => f' y w h5 else .ok (.bl false) h4
noncomputable def eh (K : PySem.W.Frag) (g : GG) (ε : EE) (f : D -> D -> Hh -> R D) (r : R2) : Prop :=
  ∀ (α : List Addr) (H : Hp) (h : Hh) (a b : D) (x y : V) (Q : VK), aU K g α H h -> aE K g α H a x -> aE K g α H b y -> WQ K g ε α H (f a b h) (aK K g α H Q) -> r x y H Q
noncomputable def AX (K : PySem.W.Frag) (g : GG) (ε : EE) (f : D -> Hh -> R Bool) (r : V -> Hp -> (Bool -> Hp -> Prop) -> Prop) : Prop :=
  ∀ (α : List Addr) (H : Hp) (h : Hh) (a : D) (x : V) (Q : Bool -> Hp -> Prop), aU K g α H h -> aE K g α H a x -> WQ K g ε α H (f a h) (jQ K g α H Q) -> r x H Q
noncomputable def nW (K : PySem.W.Frag) (g : GG) (ε : EE) (f : List D -> Hh -> R D) (r : List V -> Hp -> VK -> Prop) : Prop :=
  ∀ (α : List Addr) (H : Hp) (h : Hh) (a : List D) (x : List V) (Q : VK), aU K g α H h -> aw K g α H a x -> WQ K g ε α H (f a h) (aK K g α H Q) -> r x H Q
noncomputable def yM (K : PySem.W.Frag) (g : GG) (ε : EE) (f : D -> List D -> Hh -> R D) (r : V -> List V -> Hp -> VK -> Prop) : Prop :=
  ∀ (α : List Addr) (H : Hp) (h : Hh) (o : D) (a : List D) (y : V) (x : List V) (Q : VK), aU K g α H h -> aE K g α H o y -> aw K g α H a x -> WQ K g ε α H (f o a h) (aK K g α H Q) -> r y x H Q
section
variable {X : Cx} {g : GG} {ε : EE} {a b c : Expr} {ma mb mc : ME} {pos : Pos}
theorem af (i : Nat) {x : Str} {pos : Pos} (hN : X.N[i]? = some x := by rfl) (hv : Vis X.env.scope x := by first | exact Or.inl rfl | exact Or.inr (Or.inl rfl) | exact Or.inr (Or.inr rfl)) (hd : (x == ("__debug__" : Str)) = false := by decide)
    (hcd : (x == ("__classdict__" : Str)) = false := by decide) : PE X (.Name x pos) (tM X.K g ε (ag i)) := by
  refine PE.imp (zg hN hv hd hcd) fun σ H Q ⟨α, env, h, s, w⟩ => ?_
  unfold ag at w
  cases e : env[i]? with
  | none => rw [e] at w; exact w.elim
  | some d =>
    cases d with
    | none => rw [e] at w; exact w.elim
    | some d =>
      rw [e] at w
      obtain ⟨v, hv, rd⟩ := s.vs.vars i d e
      exact ⟨v, hv, aK.now w s.heap rd⟩
theorem uq {v : V} {d : D} {Q : VK} {σ : St} {H : Hp} (rd : ∀ α, aE X.K g α H d v) (t : tM X.K g ε (cC d) σ H Q) : tC v σ H Q := by
  obtain ⟨α, env, h, s, w⟩ := t
  exact aK.now w s.heap (rd α)
theorem ao {i j pos} : PE X (.Constant (.int i) j pos) (tM X.K g ε (cC (.int i))) := PE.imp yN fun _ _ _ t => uq (fun _ => .int i) t
theorem pM {i j pos} : PE X (.Constant (.bool i) j pos) (tM X.K g ε (cC (.bl i))) := PE.imp Ar fun _ _ _ t => uq (fun _ => .bl i) t
theorem dw {x : Str} {i : Int} {t : Tok} {pos : Pos} (hg : Gl X x) (hm : X.mg x = some (.int i t)) (hd : (x == ("__debug__" : Str)) = false := by decide) : PE X (.Name x pos) (tM X.K g ε (cC (.int i))) :=
  PE.imp (wd (v := .int i) hg hm ⟨t, rfl⟩ hd) fun _ _ _ t => uq (fun _ => .int i) t
theorem nN {f : D -> D -> Hh -> R D} {r : R2} {K : PySem.W.Frag} (im : eh K g ε f r) {σ : St} {H : Hp} {Q : VK} (t : tM K g ε (ak f ma mb) σ H Q) : tOp r (tM K g ε ma) (tM K g ε mb) σ H Q := by
  obtain ⟨α, env, h, s, w⟩ := t
  refine tM.use s w.bind fun d1 h1 v1 H1 α1 e1 s1 r1 w1 => ?_
  refine tM.use s1 (w1.ext e1).bind fun d2 h2 v2 H2 α2 e2 s2 r2 w2 => ?_
  exact im α2 H2 h2 d1 d2 v1 v2 Q s2.heap (r1.ext e2) r2 ((w2.ext e2).mono fun _ _ _ p => p.ext (e1.trans e2))
theorem av {op : Operator} {r : R2} {f : D -> D -> Hh -> R D} (ho : OpR X (binaryOp op) r) (im : eh X.K g ε f r) (ha : PE X a (tM X.K g ε ma)) (hb : PE X b (tM X.K g ε mb)) : PE X (.BinOp a op b pos) (tM X.K g ε (ak f ma mb)) :=
  PE.imp (A_ ho ha hb) fun _ _ _ t => nN im t
theorem iB {op : CmpOp} {r : R2} {f : D -> D -> Hh -> R D} (ho : OpR X (compareOp op) r) (im : eh X.K g ε f r) (ha : PE X a (tM X.K g ε ma)) (hb : PE X b (tM X.K g ε mb)) (hm : behindInMarks op b = false) : PE X (.Compare a [op] [b] pos) (tM X.K g ε (ak f ma mb)) :=
  PE.imp (vS ho ha hb hm) fun _ _ _ t => nN im t
theorem t6 {K : PySem.W.Frag} {m : ME} {t : TE} (ht : ∀ σ H Q, tM K g ε m σ H Q -> t σ H Q) {σ : St} {H : Hp} {Q : Bool -> Hp -> Prop} (w : tMT K g ε (aZ asB m) σ H Q) : xk t σ H Q := by
  obtain ⟨α, env, h, s, w⟩ := w
  refine ht _ _ _ (tM.use s w.bind fun d1 h1 v1 H1 α1 e1 s1 r1 w1 => ?_)
  unfold asB at w1
  cases r1 with
  | bl k => exact ⟨k, rfl, w1 H1 α1 e1 s1.heap⟩
  | _ => exact w1.elim
theorem cq {op : CmpOp} {r : R2} {f : D -> D -> Hh -> R D} (ho : OpR X (compareOp op) r) (im : eh X.K g ε f r) (ha : PE X a (tM X.K g ε ma)) (hb : PE X b (tM X.K g ε mb)) (hm : behindInMarks op b = false) : PT X (.Compare a [op] [b] pos) (tMT X.K g ε (aZ asB (ak f ma mb))) :=
  PT.imp (wQ ho ha hb hm) fun _ _ _ t => t6 (fun _ _ _ u => nN im u) t
theorem sA {f f' : D -> D -> Hh -> R D} {r r' : R2} {K : PySem.W.Frag} (im : eh K g ε f r) (im' : eh K g ε f' r') {σ : St} {H : Hp} {Q : VK} (t : tM K g ε (mY f f' ma mb mc) σ H Q) : sU r r' (tM K g ε ma) (tM K g ε mb) (tM K g ε mc) σ H Q := by
  obtain ⟨α, env, h, s, w⟩ := t
  refine tM.use s w.bind fun d1 h1 v1 H1 α1 e1 s1 r1 w1 => ?_
  refine tM.use s1 (w1.ext e1).bind fun d2 h2 v2 H2 α2 e2 s2 r2 w2 => ?_
  refine im α2 H2 h2 d1 d2 v1 v2 _ s2.heap (r1.ext e2) r2 ((w2.ext e2).bind.mono fun z h3 _ w3 v3 H3 α3 e3 hr3 r3 => ?_)
  have w4 := w3.bind
  unfold asB at w4
  cases r3 with
  | bl k =>
    refine ⟨k, rfl, ?_⟩
    have s3 := s2.ext e3 hr3
    cases k with
    | true =>
      have w5 : WQ K g ε α2 H2 ((mc env h3).bind fun w h5 => f' d2 w h5) _ := w4
      rw [if_pos rfl]
      refine tM.use s3 (w5.ext e3).bind fun d4 h4 v4 H4 α4 e4 s4 r4 w6 => ?_
      exact im' α4 H4 h4 d2 d4 v2 v4 Q s4.heap (r2.ext (e3.trans e4)) r4 ((w6.ext e4).mono fun _ _ _ p => p.ext (e1.trans (e2.trans (e3.trans e4))))
    | false =>
      rw [if_neg Bool.false_ne_true]
      have w5 : aK K g α H Q (.bl false) h3 := w4
      exact w5 _ H3 α3 (e1.trans (e2.trans e3)) s3.heap (.bl false)
  | _ => exact w4.elim
theorem uF {op op' : CmpOp} {r r' : R2} {f f' : D -> D -> Hh -> R D} (ho : OpR X (compareOp op) r) (ho' : OpR X (compareOp op') r') (im : eh X.K g ε f r) (im' : eh X.K g ε f' r') (ha : PE X a (tM X.K g ε ma)) (hb : PE X b (tM X.K g ε mb)) (hc : PE X c (tM X.K g ε mc))
    (hm : lastMarks [op, op'] [b, c] = false := by with_unfolding_all rfl) : PE X (.Compare a [op, op'] [b, c] pos) (tM X.K g ε (mY f f' ma mb mc)) := PE.imp (uY ho ho' ha hb hc hm) fun _ _ _ t => sA im im' t
theorem bC {r : R2} {f : D -> D -> Hh -> R D} (hr : IxR X r) (im : eh X.K g ε f r) (ha : PE X a (tM X.K g ε ma)) (hb : PE X b (tM X.K g ε mb)) (hs : qX b) : PE X (.Subscript a b pos) (tM X.K g ε (ak f ma mb)) :=
  PE.imp (AI hr ha hb hs) fun _ _ _ t => nN im t
theorem kD {f : D -> Hh -> R Bool} (im : AX X.K g ε f (fun x H Q => ∃ k, vD X.K x H k /\ Q k H)) (ha : PE X a (tM X.K g ε ma)) (he : ∀ whole, isTrue a X.env whole = (do let v ← whole; standAt a.pos; holding [v] (truthy v))) : PT X a (tMT X.K g ε (aZ f ma)) :=
  PT.imp (ue ha he) fun σ H Q ⟨α, env, h, s, w⟩ => tM.use s w.bind fun d1 h1 v1 H1 α1 e1 s1 r1 w1 => im α1 H1 h1 d1 v1 Q s1.heap r1 (w1.AB e1)
theorem qA {mt : MT} (ha : PT X a (tMT X.K g ε mt)) : PT X (.UnaryOp .Not a pos) (tMT X.K g ε (kR mt)) :=
  PT.imp (yh ha) fun σ H Q ⟨α, env, h, s, w⟩ => tMT.use s w.bind fun d1 h1 H1 α1 e1 s1 w1 => w1 H1 α1 e1 s1.heap
end
section
variable {X : Cx} {g : GG} {ε : EE} {a b c e : Expr} {es : List Expr} {rest : List Expr} {ma mb mc me : ME} {mt mu : MT} {pos : Pos}
theorem kn (ha : PT X a (tMT X.K g ε mt)) : PW X (.BoolOp .And [a] pos) (tMT X.K g ε mt) := pw_and1 ha
theorem yY (ha : PT X a (tMT X.K g ε mt)) : PW X (.BoolOp .Or [a] pos) (tMT X.K g ε mt) := pw_or1 ha
theorem m_ (ha : PT X a (tMT X.K g ε mt)) (hb : PW X (.BoolOp .And (b :: rest) pos) (tMT X.K g ε mu)) : PW X (.BoolOp .And (a :: b :: rest) pos) (tMT X.K g ε (jd mt mu)) :=
  PW.imp (pw_and ha hb) fun σ H Q ⟨α, env, h, s, w⟩ => tMT.use s w.bind fun d1 h1 H1 α1 e1 s1 w1 => by
    cases d1 with
    | true => rw [if_pos rfl] at w1 ⊢; exact tMT.use s1 (w1.ext e1) fun d2 h2 H2 α2 e2 s2 w2 => w2 H2 α2 (e1.trans e2) s2.heap
    | false => rw [if_neg Bool.false_ne_true] at w1 ⊢; exact w1 H1 α1 e1 s1.heap
theorem Ap (ha : PT X a (tMT X.K g ε mt)) (hb : PW X (.BoolOp .Or (b :: rest) pos) (tMT X.K g ε mu)) : PW X (.BoolOp .Or (a :: b :: rest) pos) (tMT X.K g ε (vY mt mu)) :=
  PW.imp (pw_or ha hb) fun σ H Q ⟨α, env, h, s, w⟩ => tMT.use s w.bind fun d1 h1 H1 α1 e1 s1 w1 => by
    cases d1 with
    | true => rw [if_pos rfl] at w1 ⊢; exact w1 H1 α1 e1 s1.heap
    | false => rw [if_neg Bool.false_ne_true] at w1 ⊢; exact tMT.use s1 (w1.ext e1) fun d2 h2 H2 α2 e2 s2 w2 => w2 H2 α2 (e1.trans e2) s2.heap
theorem gz (hc : PT X c (tMT X.K g ε mt)) (ha : PE X a (tM X.K g ε ma)) (hb : PE X b (tM X.K g ε mb)) : PE X (.IfExp c a b pos) (tM X.K g ε (cIf mt ma mb)) :=
  PE.imp (sX hc ha hb) fun σ H Q ⟨α, env, h, s, w⟩ => tMT.use s w.bind fun d1 h1 H1 α1 e1 s1 w1 => by
    cases d1 with
    | true => rw [if_pos rfl] at w1 ⊢; exact tM.use s1 (w1.ext e1) fun d2 h2 v2 H2 α2 e2 s2 r2 w2 => w2 v2 H2 α2 (e1.trans e2) s2.heap r2
    | false => rw [if_neg Bool.false_ne_true] at w1 ⊢; exact tM.use s1 (w1.ext e1) fun d2 h2 v2 H2 α2 e2 s2 r2 w2 => w2 v2 H2 α2 (e1.trans e2) s2.heap r2
theorem m6 {op} (h : PE X a (tM X.K g ε ma)) : PE X (.BoolOp op [a] pos) (tM X.K g ε ma) := yX h
theorem uU {K : PySem.W.Frag} {α : List Addr} {H H1 : Hp} {α1 : List Addr} {d : D} {v : V} {h : Hh} {β : Type} {f : Bool -> Hh -> R β} {k : β -> Hh -> Prop} (r : aE K g α1 H1 d v) (w : WQ K g ε α H ((asB d h).bind f) k) : ∃ b, v = .bl b /\ d = .bl b /\ WQ K g ε α H (f b h) k := by
  cases r with
  | bl b => exact ⟨b, rfl, rfl, w⟩
  | _ => exact w.elim
theorem mZ (ha : PE X a (tM X.K g ε ma)) (hb : PE X (.BoolOp .And (b :: rest) pos) (tM X.K g ε mb)) : PE X (.BoolOp .And (a :: b :: rest) pos) (tM X.K g ε (jV ma mb)) :=
  PE.imp (yq ha hb) fun σ H Q ⟨α, env, h, s, w⟩ => tM.use s w.bind fun d1 h1 v1 H1 α1 e1 s1 r1 w1 => by
    obtain ⟨k, rfl, rfl, w2⟩ := uU r1 w1
    refine ⟨k, rfl, ?_⟩
    cases k with
    | true => rw [if_pos rfl] at w2 ⊢; exact tM.use s1 (w2.ext e1) fun d2 h2 v2 H2 α2 e2 s2 r2 w2 => w2 v2 H2 α2 (e1.trans e2) s2.heap r2
    | false => rw [if_neg Bool.false_ne_true] at w2 ⊢; exact w2 _ H1 α1 e1 s1.heap (.bl false)
theorem yc (ha : PE X a (tM X.K g ε ma)) : PE X (.UnaryOp .Not a pos) (tM X.K g ε (tH ma)) :=
  PE.imp (yd ha) fun σ H Q ⟨α, env, h, s, w⟩ => tM.use s w.bind fun d1 h1 v1 H1 α1 e1 s1 r1 w1 => by
    obtain ⟨k, rfl, rfl, w2⟩ := uU r1 w1
    exact ⟨k, rfl, w2 _ H1 α1 e1 s1.heap (.bl _)⟩
variable {mr : MA}
theorem aj : PA X [] (tMA X.K g ε aq) := PA.imp p_ fun σ H Q ⟨α, env, h, s, w⟩ => w [] H α Ext.refl s.heap .nil
theorem ae (ha : PE X e (tM X.K g ε ma)) (hr : PA X es (tMA X.K g ε mr)) (hs : starEach (e :: es) X.env = (false, eval e X.env) :: starEach es X.env := by rfl) : PA X (e :: es) (tMA X.K g ε (aa ma mr)) :=
  PA.imp (kh ha hr hs) fun σ H Q ⟨α, env, h, s, w⟩ => tM.use s w.bind fun d1 h1 v1 H1 α1 e1 s1 r1 w1 => tMA.use s1 (w1.ext e1).bind fun d2 h2 v2 H2 α2 e2 s2 r2 w2 => w2 _ H2 α2 (e1.trans e2) s2.heap (.cons (r1.ext e2) r2)
noncomputable def cj : List D -> Hh -> R D := fun ds h => if ds.length <= 1000000 then .ok (.tup ds) h else .bad
theorem aK.tup {K : PySem.W.Frag} {α : List Addr} {H : Hp} {h : Hh} {ds : List D} {vs : List V} {Q : VK} {p : Addr} (w : aK K g α H Q (.tup ds) h) (r : aU K g α H h) (rd : aw K g α H ds vs) (n : H p = none) : Q (.ref p) (upd H p (.tup vs)) :=
  w _ _ α (Ext.fresh n) (r.grow n) (.tup bg (rd.ext (Ext.fresh n)))
theorem WQ.eU {K : PySem.W.Frag} {α : List Addr} {H : Hp} {β : Type} {c : Prop} [Decidable c] {r : R β} {k : β -> Hh -> Prop} (w : WQ K g ε α H (if c then r else .bad) k) : c /\ WQ K g ε α H r k := by
  by_cases h : c
  · rw [if_pos h] at w; exact ⟨h, w⟩
  · rw [if_neg h] at w; exact w.elim
theorem eW {n : Nat} (h : n <= 1000000) : n <= sizeLine := by rw [sizeLine_eq]; omega
theorem cE {x1} (ha : PA X es (tMA X.K g ε mr)) : PE X (.Tuple es x1 pos) (tM X.K g ε (ah cj mr)) :=
  PE.imp (xV ha) fun σ H Q ⟨α, env, h, s, w⟩ => tMA.use s w.bind fun d1 h1 v1 H1 α1 e1 s1 r1 w1 => by
    obtain ⟨hl, w2⟩ := WQ.eU w1
    exact ⟨eW (by rw [<- r1.length]; exact hl), fun p hp => aK.tup (aK.ext e1 w2) s1.heap r1 hp⟩
theorem tF {f : List D -> Hh -> R D} {r : List V -> Hp -> VK -> Prop} {K : PySem.W.Frag} (im : nW K g ε f r) {σ : St} {H : Hp} {Q : VK} (t : tM K g ε (ah f mr) σ H Q) : tCB r (tMA K g ε mr) σ H Q := by
  obtain ⟨α, env, h, s, w⟩ := t
  exact tMA.use s w.bind fun d1 h1 v1 H1 α1 e1 s1 r1 w1 => im α1 H1 h1 d1 v1 Q s1.heap r1 (w1.post e1)
theorem bP {id : String} {x : Str} {p : Pos} {f : List D -> Hh -> R D} {r : List V -> Hp -> VK -> Prop} (hc : bL X (.builtin id) r) (im : nW X.K g ε f r) (hg : Gl X x) (hm : X.mg x = none) (hv : bootBuiltins x = some (.builtin id)) (ha : PA X (e :: es) (tMA X.K g ε mr)) (hn : x ≠ "__name__" := by decide) (hdb : (x == ("__debug__" : Str)) = false := by decide)
    (he : starEach (e :: es) X.env = (false, eval e X.env) :: starEach es X.env := by rfl) (hpl : (backTo pos (starEach es X.env)).any (·.1) = false := by rfl) : PE X (.Call (.Name x p) (e :: es) [] pos) (tM X.K g ε (ah f mr)) :=
  PE.imp (oy hc hg hm hv ha hn hdb he hpl) fun _ _ _ t => tF im t
theorem fH {id : String} {x : Str} {p : Pos} {f : List D -> Hh -> R D} {r : List V -> Hp -> VK -> Prop} (hc : bL X (.type id) r) (im : nW X.K g ε f r) (hg : Gl X x) (hm : X.mg x = none) (hv : bootBuiltins x = some (.type id)) (ha : PA X (e :: es) (tMA X.K g ε mr)) (hn : x ≠ "__name__" := by decide) (hdb : (x == ("__debug__" : Str)) = false := by decide)
    (he : starEach (e :: es) X.env = (false, eval e X.env) :: starEach es X.env := by rfl) (hpl : (backTo pos (starEach es X.env)).any (·.1) = false := by rfl) : PE X (.Call (.Name x p) (e :: es) [] pos) (tM X.K g ε (ah f mr)) :=
  PE.imp (js hc hg hm hv ha hn hdb he hpl) fun _ _ _ t => tF im t
end
noncomputable def fK : MS := fun env h => .ok (.nx env) h
noncomputable def az (a b : MS) : MS := fun env h => (a env h).bind fun fl h1 => match fl with
  | .nx e => b e h1
  | fl => .ok fl h1
noncomputable def eX (a : ME) : MS := fun env h => (a env h).bind fun _ h1 => .ok (.nx env) h1
noncomputable def cb (a : ME) : MS := fun env h => (a env h).bind fun d h1 => .ok (.rt d) h1
noncomputable def jv (c : MT) (a b : MS) : MS := fun env h => (c env h).bind fun x h1 => if x = true then a env h1 else b env h1
noncomputable def aY (i : Nat) (a : ME) : MS := fun env h => (a env h).bind fun d h1 => .ok (.nx (env.set i (some d))) h1
noncomputable def lJ (i j : Nat) (a : MA) : MS := fun env h => (a env h).bind fun ds h1 => match ds with
  | [x, y] => .ok (.nx ((env.set i (some x)).set j (some y))) h1
  | _ => .bad
noncomputable def eE (f : D -> D -> D -> Hh -> R Unit) (o i v : ME) : MS := fun env h => (v env h).bind fun x h1 => (o env h1).bind fun y h2 => (i env h2).bind fun z h3 => (f y z x h3).bind fun _ h4 => .ok (.nx env) h4
noncomputable def By : MS := fun _ _ => .bad
section
variable {X : Cx} {g : GG} {ε : EE} {e : Expr} {me : ME} {ms mu : MS} {mt : MT} {st : Stmt} {rest : List Stmt} {pos : Pos}
theorem cU.nx {K : PySem.W.Frag} {α α' : List Addr} {H H' : Hp} {env : En} {σ : St} {h' : Hh} {E : Ends} (s : cU K g α' H' env σ h') (e : Ext K α H α' H') (w : cv K g α H E (.nx env) h') : E.nx σ H' := w H' α' e s.heap σ s.vs
theorem f7 : PSs X [] (tMS X.K g ε fK) := PSs.imp wu fun E σ H ⟨α, env, h, s, w⟩ => s.nx Ext.refl w
theorem tMS.use {K : PySem.W.Frag} {α : List Addr} {H : Hp} {env : En} {σ : St} {h : Hh} {m : MS} {E : Ends} {k : Fl -> Hh -> Prop} (s : cU K g α H env σ h) (w : WQ K g ε α H (m env h) k)
    (q : ∀ fl h' H' α', Ext K α H α' H' -> aU K g α' H' h' -> k fl h' -> match fl with
      | .nx e => ∀ σ', cU K g α' H' e σ' h' -> E.nx σ' H'
      | .bk e => ∀ σ', cU K g α' H' e σ' h' -> E.bk σ' H'
      | .ct e => ∀ σ', cU K g α' H' e σ' h' -> E.ct σ' H'
      | .rt d => ∀ v, aE K g α' H' d v -> E.rt v H') : tMS K g ε m E σ H :=
  ⟨α, env, h, s, w.mono fun fl h' _ kk H' α' e r => by
    have := q fl h' H' α' e r kk
    cases fl with
    | nx e => exact fun σ' v => this σ' ⟨r, v⟩
    | bk e => exact fun σ' v => this σ' ⟨r, v⟩
    | ct e => exact fun σ' v => this σ' ⟨r, v⟩
    | rt d => exact this⟩
theorem ar (h1 : PS X st (tMS X.K g ε ms)) (h2 : PSs X rest (tMS X.K g ε mu)) : PSs X (st :: rest) (tMS X.K g ε (az ms mu)) :=
  PSs.imp (t8 h1 h2) fun E σ H ⟨α, env, h, s, w⟩ => tMS.use s w.bind fun fl h' H' α' e r kk => by
    cases fl with
    | nx env' => exact fun σ' s' => ⟨α', env', h', s', WQ.qL e kk⟩
    | bk env' => exact fun σ' s' => (show cv X.K g α H E (.bk env') h' from kk) H' α' e r σ' s'.vs
    | ct env' => exact fun σ' s' => (show cv X.K g α H E (.ct env') h' from kk) H' α' e r σ' s'.vs
    | rt d => exact fun v rv => (show cv X.K g α H E (.rt d) h' from kk) H' α' e r v rv
theorem aI (h1 : PS X st (tMS X.K g ε ms)) : PSs X [st] (tMS X.K g ε ms) := wt h1
theorem fD (he : PE X e (tM X.K g ε me)) (hs : swapsWith e none pos.line X.env = pure false := by rfl) : PS X (.Expr e pos) (tMS X.K g ε (eX me)) :=
  PS.imp (vL he hs) fun E σ H ⟨α, env, h, s, w⟩ => tM.use s w.bind fun d1 h1 v1 H1 α1 e1 s1 r1 w1 => s1.nx e1 w1
theorem cm (he : PE X e (tM X.K g ε me)) : PS X (.Return (some e) pos) (tMS X.K g ε (cb me)) :=
  PS.imp (xZ he) fun E σ H ⟨α, env, h, s, w⟩ => tM.use s w.bind fun d1 h1 v1 H1 α1 e1 s1 r1 w1 => (show cv X.K g α H E (.rt d1) h1 from w1) H1 α1 e1 s1.heap v1 r1
theorem qb {c : Expr} {A B : List Stmt} (hc : PT X c (tMT X.K g ε mt)) (ha : PSs X A (tMS X.K g ε ms)) (hb : PSs X B (tMS X.K g ε mu)) : PS X (.If c A B pos) (tMS X.K g ε (jv mt ms mu)) :=
  PS.imp (AO hc ha hb) fun E σ H ⟨α, env, h, s, w⟩ => tMT.use s w.bind fun d1 h1 H1 α1 e1 s1 w1 => by
    cases d1 with
    | true => rw [if_pos rfl] at w1 ⊢; exact ⟨α1, env, h1, s1, WQ.qL e1 w1⟩
    | false => rw [if_neg Bool.false_ne_true] at w1 ⊢; exact ⟨α1, env, h1, s1, WQ.qL e1 w1⟩
theorem bD {i : Nat} {x : Str} {pos' : Pos} (hN : X.N.Nodup) (hi : X.N[i]? = some x) (hx : Loc X.env.scope x) (he : PE X e (tM X.K g ε me)) (hs : swapsWith e (some (.Name x pos')) pos.line X.env = pure false := by rfl) (hf : X.fn x = true \/ X.env.scope.names.lookup x = some .local := by first | exact .inl rfl | exact .inr rfl | assumption) :
    PS X (.Assign [.Name x pos'] e pos) (tMS X.K g ε (aY i me)) :=
  PS.imp (zC hN hi hx he hs hf) fun E σ H ⟨α, env, h, s, w⟩ => tM.use s w.bind fun d1 h1 v1 H1 α1 e1 s1 r1 w1 => (show cv X.K g α H E (.nx (env.set i (some d1))) h1 from w1) H1 α1 e1 s1.heap _ (s1.vs.set r1)
theorem zU {i j : Nat} {x y : Str} {a b : Expr} {ma : MA} {px py pt : Pos} {kt k2 pt2} (hc : X.calm = true) (hN : X.N.Nodup) (hi : X.N[i]? = some x) (hj : X.N[j]? = some y) (hij : i ≠ j)
    (hx : X.env.scope.names.lookup x = some .local) (hy : X.env.scope.names.lookup y = some .local) (ha : PA X [a, b] (tMA X.K g ε ma))
    (hw : swappedStores [.Tuple [.Name x px, .Name y py] kt pt] (.Tuple [a, b] k2 pt2) X.env = pure (some [x, y]))
    (hs : swapsWithSole [.Tuple [.Name x px, .Name y py] kt pt] (.Tuple [a, b] k2 pt2) pos.line X.env = pure false := by rfl) :
    PS X (.Assign [.Tuple [.Name x px, .Name y py] kt pt] (.Tuple [a, b] k2 pt2) pos) (tMS X.K g ε (lJ i j ma)) :=
  PS.imp (yp hc hN hi hj hij hx hy ha hw hs) fun E σ H ⟨α, env, h, s, w⟩ => tMA.use s w.bind fun d1 h1 v1 H1 α1 e1 s1 r1 w1 => by
    cases r1 with
    | nil => exact w1.elim
    | cons ra rr =>
      cases rr with
      | nil => exact w1.elim
      | cons rb rr =>
        cases rr with
        | nil => exact ⟨_, _, rfl, (show cv X.K g α H E (.nx _) h1 from w1) H1 α1 e1 s1.heap _ ((s1.vs.set ra).set rb)⟩
        | cons _ _ => exact w1.elim
noncomputable def zT (K : PySem.W.Frag) (g : GG) (ε : EE) (f : D -> D -> D -> Hh -> R Unit) (t : s_) : Prop :=
  ∀ (α : List Addr) (H : Hp) (h : Hh) (o i v : D) (x y z : V) (Q : Hp -> Prop), aU K g α H h -> aE K g α H o x -> aE K g α H i y -> aE K g α H v z -> WQ K g ε α H (f o i v h) (fun _ h' => ∀ H' α', Ext K α H α' H' -> aU K g α' H' h' -> Q H') -> t x y z H Q
theorem ki {o i : Expr} {mo mi : ME} {t : s_} {f : D -> D -> D -> Hh -> R Unit} {p : Pos} (he : PE X e (tM X.K g ε me)) (ho : PE X o (tM X.K g ε mo)) (hi : PE X i (tM X.K g ε mi)) (hp : ye X t) (im : zT X.K g ε f t)
    (ha : ∀ v, assign (.Subscript o i p) X.env v = (do
      let ov ← holding [v] (eval o X.env)
      let iv ← holding [v, ov] (eval i X.env)
      standAt p
      holding [v, ov, iv] (setItem ov iv v)
      release [v, ov, iv] []) := by intro _; rfl)
    (hs : swapsWithSole [.Subscript o i p] e pos.line X.env = pure false := by rfl) (hw : swappedStores [.Subscript o i p] e X.env = pure none := by rfl)
    (h1 : (assignEach [.Subscript o i p] X.env).map (·.2) = [assign (.Subscript o i p) X.env] := by rfl) : PS X (.Assign [.Subscript o i p] e pos) (tMS X.K g ε (eE f mo mi me)) :=
  PS.imp (sZ he (yL ho hi hp ha) hs hw h1) fun E σ H ⟨α, env, h, s, w⟩ => tM.use s w.bind fun d1 h1 v1 H1 α1 e1 s1 r1 w1 => tM.use s1 (w1.ext e1).bind fun d2 h2 v2 H2 α2 e2 s2 r2 w2 => tM.use s2 (w2.ext e2).bind fun d3 h3 v3 H3 α3 e3 s3 r3 w3 => by
    refine im α3 H3 h3 d2 d3 d1 v2 v3 v1 _ s3.heap (r2.ext e3) r3 ((r1.ext e2).ext e3) ((w3.ext e3).bind.mono fun _ h4 _ w4 H4 α4 e4 hr4 => ?_)
    exact (show cv X.K g α H E (.nx env) h4 from w4) H4 α4 (e1.trans (e2.trans (e3.trans e4))) hr4 _ (s3.vs.ext e4)
end
theorem vW {X : Cx} {pins : List (Addr × Obj)} {σ : St} {H : Hp} {s : Shared} {p : Addr} {u : HO} (I : Inv X pins σ H s) (h : H p = some u) (mu : Mut (some u)) : ∃ o, Inv X pins σ (upd H p (.frz o u)) s := by
  obtain ⟨o, ho⟩ : ∃ o, s.heap.get? p = some o := by
    have hl := (I.hok p _ h).lt
    cases e : s.heap.get? p with
    | some o => exact ⟨o, rfl⟩
    | none => 
      have q := I.hok p _ h
      cases u with
      | lst xs => obtain ⟨_, _, _, _, e'⟩ := q; rw [e] at e'; cases e'
      | dK kvs => obtain ⟨_, _, _, _, o, _, _, e', _⟩ := q; rw [e] at e'; cases e'
      | dT kvs => obtain ⟨_, _, _, _, o, _, _, e', _⟩ := q; rw [e] at e'; cases e'
      | set S n => obtain ⟨o, _, _, _, e', _⟩ := q; rw [e] at e'; cases e'
      | ins C dx fs => obtain ⟨_, _, _, e', _⟩ := q; rw [e] at e'; cases e'
      | ext φ => obtain ⟨_, ⟨_, e'⟩, _⟩ := q; rw [e] at e'; cases e'
      | _ => exact absurd mu (fun z => z)
  have nt : ∀ b xs, H b = some (.tup xs) -> b ≠ p := fun b xs e z => by subst z; rw [h] at e; cases e; exact mu
  have nf : ∀ b o u, H b = some (.frz o u) -> b ≠ p := fun b o u e z => by subst z; rw [h] at e; cases e; exact mu
  have nb : ∀ b ps, H b = some (.tbl ps) -> b ≠ p := fun b ps e z => by subst z; rw [h] at e; cases e; exact mu
  have no : ∀ b y, H b = some (.own y) -> b ≠ p := fun b ps e z => by subst z; rw [h] at e; cases e; exact mu
  have hok : HOk X.prog X.w (upd H p (.frz o u)) s.heap := fun b v q => by
    by_cases hb : b = p
    · subst hb
      rw [bg] at q; cases q
      exact ⟨ho, (I.hok b _ h).n9 (fun _ _ _ z => z) (fun c z => by rw [aS (no c _ z)]; exact z) fun c xs z => by rw [aS (nt c xs z)]; exact z⟩
    · rw [aS hb] at q
      exact (I.hok b v q).n9 (fun _ _ _ z => z) (fun c z => by rw [aS (no c _ z)]; exact z) fun c xs z => by rw [aS (nt c xs z)]; exact z
  refine ⟨o, ?_⟩
  have np : ∀ b, H b = none -> b ≠ p := fun b e z => by subst z; rw [h] at e; cases e
  have := I.un (H' := upd H p (.frz o u)) (h' := s.heap) (t' := s.toks) ⟨fun b o q _ _ _ => q, fun b o q _ _ _ => ⟨o.slots, q⟩, fun b v q n _ => (by rw [aS (np b n)]; exact n), fun b o q _ => ⟨o, q⟩, fun b xs q => (by rw [aS (nt b xs q)]; exact q), fun b o v q => (by rw [aS (nf b o v q)]; exact q), fun b ps q => ⟨#[], by rw [aS (nb b ps q), q]; simp⟩⟩ hok
  exact this
noncomputable def iG (Q : VK) : VK := fun v H => Q v H \/ ∃ p u, v = .ref p /\ H p = some u /\ Mut (some u) /\ ∀ o, Q v (upd H p (.frz o u))
theorem EP.frz {X : Cx} {pins : List (Addr × Obj)} {σ : St} {Q : VK} {u : Value} {s' : Shared} (h : EP X pins σ (iG Q) u s') : EP X pins σ Q u s' := by
  obtain ⟨v, H', I, r, q | ⟨p, u, rfl, e, m, q⟩⟩ := h
  · exact ⟨v, H', I, r, q⟩
  · obtain ⟨o, I'⟩ := vW I e m
    exact ⟨_, _, I', r, q o⟩
theorem PE.frz {X : Cx} {e : Expr} {t : TE} (h : PE X e t) : PE X e fun σ H Q => t σ H (iG Q) := fun pins s σ H Q I w => thn (h pins s σ H _ I w) fun _ _ z => EP.frz z
theorem OpR.frz {X : Cx} {f : Value -> Value -> Sem Value} {r : R2} (h : OpR X f r) : OpR X f fun x y H Q => r x y H (iG Q) := fun pins s σ H x y v u Q I rx ry q => thn (h pins s σ H x y v u _ I rx ry q) fun _ _ z => EP.frz z
theorem bL.frz {X : Cx} {f : Value} {r : List V -> Hp -> VK -> Prop} (h : bL X f r) : bL X f fun xs H Q => r xs H (iG Q) := fun pins s σ H xs us Q I rx q => thn (h pins s σ H xs us _ I rx q) fun _ _ z => EP.frz z
noncomputable abbrev NL := List D -> Hh -> R D
noncomputable def kd : NL := fun ys h2 => .ok (.ref h2.length) (h2 ++ [O.lst ys])
noncomputable def au : NL := fun ys h2 => .ok (.frl ys) h2
class iW (nl : NL) : Prop where
  at' : ∀ {K : PySem.W.Frag} {g : GG} {ε : EE} {α1 α2 : List Addr} {H1 H2 : Hp} {h : Hh} {as : List D} {ys : List V} {acc : Addr} {Q : D -> Hh -> Prop} {R : VK}, WQ K g ε α1 H1 (nl as h) Q -> (∀ d h', Q d h' -> aK K g α1 H1 R d h') -> Ext K α1 H1 α2 H2 -> aU K g α2 H2 h -> aw K g α2 H2 as ys -> H2 acc = some (.lst ys) -> acc ∉ α2 -> H1 acc = none -> iG R (.ref acc) H2
instance : iW kd where
  at' := fun {K g ε α1 α2 H1 H2 h as ys acc Q R} w hq x2 hr2 ra ha hna hacc => by
    have x3 : Ext K α1 H1 (α2 ++ [acc]) H2 := ⟨x2.toEx0.trans (Ex0.refl.more _), x2.keep, fun p z n => by
      rcases List.mem_append.mp z with z | z
      · exact x2.new p z n
      · rw [List.mem_singleton.mp z]; exact hacc⟩
    refine .inl (hq _ _ w _ H2 (α2 ++ [acc]) x3 (hr2.adopt hna ⟨ys, ha, ra.ex0 (Ex0.refl.more _)⟩) (.ref ?_))
    rw [<- hr2.len, List.getElem?_append_right (Nat.le_refl _)]; simp
instance : iW au where
  at' := fun {K g ε α1 α2 H1 H2 h as ys acc Q R} w hq x2 hr2 ra ha hna hacc => by
    refine .inr ⟨acc, _, rfl, ha, trivial, fun o => ?_⟩
    have soft : vP H2 acc := .inr ⟨_, ha, fun _ z => (nomatch z), fun _ _ z => nomatch z⟩
    have x6 : Ex0 K α2 H2 α2 (upd H2 acc (.frz o (.lst ys))) := Ex0.upd soft
    refine hq _ _ w _ _ α2 ⟨x2.toEx0.trans x6, fun p u z n => ?_, x2.new⟩ (hr2.off soft hna) (.frl ⟨o, bg⟩ (ra.ex0 x6))
    rw [aS (cn z hacc)]; exact x2.keep p u z n
theorem NL.post {nl : NL} [iW nl] {K : PySem.W.Frag} {g : GG} {ε : EE} {α : List Addr} {H : Hp} {h : Hh} {ds : List D} {vs : List V} {Q : VK} {p : Addr} (w : WQ K g ε α H (nl ds h) (aK K g α H Q)) (r : aU K g α H h) (rd : aw K g α H ds vs) (n : H p = none) : iG Q (.ref p) (upd H p (.lst vs)) :=
  iW.at' w (fun _ _ z => z) (Ext.fresh n) (r.grow n) (rd.ext (Ext.fresh n)) bg (r.free n) n
noncomputable def bU (nl : NL) : List D -> Hh -> R D := fun ds h => if ds.length <= 1000000 then nl ds h else .bad
theorem bQ {X : Cx} {g : GG} {ε : EE} {es : List Expr} {mr : MA} {pos : Pos} {nl : NL} [iW nl] (ha : PA X es (tMA X.K g ε mr)) : PE X (.List es pos) (tM X.K g ε (ah (bU nl) mr)) :=
  PE.imp (PE.frz (zE ha)) fun σ H Q ⟨α, env, h, s, w⟩ => tMA.use s w.bind fun d1 h1 v1 H1 α1 e1 s1 r1 w1 => by
    obtain ⟨hl, w2⟩ := WQ.eU w1
    exact ⟨eW (by rw [<- r1.length]; exact hl), fun p hp => NL.post (w2.post e1) s1.heap r1 hp⟩
noncomputable def aD (h : Hh) (n : Nat) : Option (List D) := match h[n]? with
  | some (.lst ds) => some ds
  | _ => none
inductive Src where
  | snap (ds : List D)
  | live (n : Nat)
  | liveE (n : Nat)
noncomputable abbrev MI := En -> Hh -> R Src
noncomputable abbrev Rdr := Hh -> Nat -> Option (Option D)
noncomputable def Src.rdr : Src -> Rdr
  | .snap ds => fun _ i => some ds[i]?
  | .live n => fun h i => (aD h n).map fun ds => ds[i]?
  | .liveE n => fun h i => (aD h n).map fun ds => (ds[i]?).map fun d => D.tup [.int i, d]
noncomputable def Src.fuel (s : Src) (h : Hh) : Nat := match s with
  | .snap ds => ds.length
  | .live n => ((aD h n).getD []).length
  | .liveE n => ((aD h n).getD []).length
noncomputable def Reads (K : PySem.W.Frag) (g : GG) (J : It) (rd : Rdr) (α₀ : List Addr) (bx : Hp) : Prop :=
  ∀ (α : List Addr) (H : Hp) (h : Hh), Ext K α₀ bx α H -> aU K g α H h -> ∀ i, match rd h i with
    | none => True
    | some none => J.stop i H
    | some (some d) => J.go i H /\ ∀ x H', J.yld i H x H' -> ∃ α', Ext K α H α' H' /\ aU K g α' H' h /\ aE K g α' H' d x
noncomputable def tMI (K : PySem.W.Frag) (g : GG) (ε : EE) (m : MI) : TI := fun σ H T => ∃ α env h, cU K g α H env σ h /\ WQ K g ε α H (m env h) fun sr h' => ∀ J H' α', Ext K α H α' H' -> aU K g α' H' h' -> Reads K g J sr.rdr α' H' -> T J H'
theorem PI.imp {X : Cx} {tg e : Expr} {t t' : TI} (h : PI X tg e t) (i : ∀ σ H Q, t' σ H Q -> t σ H Q) : PI X tg e t' := fun pins s σ H Q I w => h pins s σ H Q I (i σ H Q w)
noncomputable def gh (rd : Rdr) (tg : D -> En -> Hh -> R En) (body : MS) : Nat -> Nat -> En -> Hh -> R Fl
  | k, i, env, h => match rd h i with
    | none => .bad
    | some none => .ok (.nx env) h
    | some (some d) => match k with
      | 0 => .bad
      | k + 1 => (tg d env h).bind fun e1 h1 => (body e1 h1).bind fun fl h2 => match fl with
        | .nx e => gh rd tg body k (i + 1) e h2
        | .ct e => gh rd tg body k (i + 1) e h2
        | .bk e => .ok (.nx e) h2
        | .rt d => .ok (.rt d) h2
noncomputable def dW (tg : D -> En -> Hh -> R En) (body : MS) : List D -> En -> Hh -> R Fl
  | [], env, h => .ok (.nx env) h
  | d :: ds, env, h => (tg d env h).bind fun e1 h1 => (body e1 h1).bind fun fl h2 => match fl with
    | .nx e => dW tg body ds e h2
    | .ct e => dW tg body ds e h2
    | .bk e => .ok (.nx e) h2
    | .rt d => .ok (.rt d) h2
theorem wK (tg : D -> En -> Hh -> R En) (body : MS) (all : List D) : ∀ (ds : List D) (i : Nat) (env : En) (h : Hh), all.drop i = ds -> gh (Src.snap all).rdr tg body ds.length i env h = dW tg body ds env h := by
  intro ds
  induction ds with
  | nil =>
    intro i env h e
    have : all[i]? = none := by
      have := congrArg List.length e
      simp at this
      exact List.getElem?_eq_none (by omega)
    unfold gh dW Src.rdr
    simp [this]
  | cons d ds ih =>
    intro i env h e
    have h0 : all[i]? = some d := by
      have := congrArg (fun l => l[0]?) e
      simpa using this
    have h1 : all.drop (i + 1) = ds := by
      have := congrArg List.tail e
      simpa using this
    unfold gh dW
    have : (Src.snap all).rdr h i = some (some d) := by unfold Src.rdr; simp [h0]
    rw [this]
    show ((tg d env h).bind _) = _
    congr 1
    funext e1 h2
    congr 1
    funext fl h3
    cases fl with
    | nx e => exact ih (i + 1) e h3 h1
    | ct e => exact ih (i + 1) e h3 h1
    | bk e => rfl
    | rt d => rfl
noncomputable def cR (mi : MI) (tg : D -> En -> Hh -> R En) (body : MS) : MS := fun env h => (mi env h).bind fun sr h1 => match sr with
  | .snap ds => dW tg body ds env h1
  | .live n => gh (Src.live n).rdr tg body ((aD h1 n).getD []).length 0 env h1
  | .liveE n => gh (Src.liveE n).rdr tg body ((aD h1 n).getD []).length 0 env h1
theorem vX {mi : MI} {tg : D -> En -> Hh -> R En} {body : MS} {env : En} {h : Hh} : cR mi tg body env h = (mi env h).bind fun sr h1 => gh sr.rdr tg body (sr.fuel h1) 0 env h1 := by
  unfold cR
  congr 1
  funext sr h1
  cases sr with
  | snap ds => exact (wK tg body ds ds 0 env h1 rfl).symm
  | live n => rfl
  | liveE n => rfl
noncomputable def gN (i : Nat) : D -> En -> Hh -> R En := fun d env h => .ok (env.set i (some d)) h
noncomputable def gT2 (i j : Nat) : D -> En -> Hh -> R En := fun d env h => match d with
  | .tup [x, y] => .ok ((env.set i (some x)).set j (some y)) h
  | _ => .bad
noncomputable def vB (K : PySem.W.Frag) (g : GG) (ε : EE) (tg : D -> En -> Hh -> R En) (t : TG) : Prop :=
  ∀ (α : List Addr) (H : Hp) (h : Hh) (env : En) (σ : St) (d : D) (x : V) (Q : St -> Hp -> Prop), cU K g α H env σ h -> aE K g α H d x →
    WQ K g ε α H (tg d env h) (fun e1 h1 => ∀ σ' H' α', Ext K α H α' H' -> cU K g α' H' e1 σ' h1 -> Q σ' H') -> t x σ H Q
theorem dq {K : PySem.W.Frag} {g : GG} {ε : EE} {i : Nat} : vB K g ε (gN i) (ik i) := fun α H h env σ d x Q s r w => w _ H α Ext.refl ⟨s.heap, s.vs.set r⟩
theorem qj {K : PySem.W.Frag} {g : GG} {ε : EE} {i j : Nat} : vB K g ε (gT2 i j) (xR K 2 (mI (ik i) (mI (ik j) ze))) := fun α H h env σ d x Q s r w => by
  unfold gT2 at w
  cases r with
  | tup hq rs =>
    cases rs with
    | nil => exact w.elim
    | cons ra rr =>
      cases rr with
      | nil => exact w.elim
      | cons rb rr =>
        cases rr with
        | nil => exact ⟨_, _, rfl, SqT.of hq, rfl, _, _, rfl, _, _, rfl, rfl, w _ H α Ext.refl ⟨s.heap, (s.vs.set ra).set rb⟩⟩
        | cons _ _ => exact w.elim
  | _ => exact w.elim
section
variable {X : Cx} {g : GG} {ε : EE}
theorem eZ {tg iter : Expr} {body : List Stmt} {mi : MI} {t : TG} {fg : D -> En -> Hh -> R En} {mb : MS} {pos : Pos} (hp : PassesOwn (model X.prog X.w) X.A X.env X.xe) (hc : X.calm = true) (hi : PI X tg iter (tMI X.K g ε mi)) (hg : PG X tg t) (ig : vB X.K g ε fg t) (hb : PSs X body (tMS X.K g ε mb))
    (hs : ∀ x, foldedSetIterable iter X.env x = pure x := by intro _; rfl) : PS X (.For tg iter body [] pos) (tMS X.K g ε (cR mi fg mb)) := by
  refine PS.imp (zF hp hc hi hg hb hs) fun E σ H ⟨α, env, h, s, w⟩ => ?_
  rw [vX] at w
  refine ⟨α, env, h, s, w.bind.mono fun sr h1 _ w1 J H1 α1 e1 hr1 rd => ?_⟩
  refine ⟨fun i m σ H => ∃ α env h, Ext X.K α1 H1 α H /\ cU X.K g α H env σ h /\ WQ X.K g ε α H (gh sr.rdr fg mb m i env h) (cv X.K g α H E), ⟨sr.fuel h1, α1, env, h1, Ext.refl, s.ext e1 hr1, w1.qL e1⟩, ?_⟩
  rintro i m σ2 H2 ⟨α2, env2, h2, x2, s2, w2⟩
  have q := rd α2 H2 h2 x2 s2.heap i
  unfold gh at w2
  cases e : sr.rdr h2 i with
  | none => rw [e] at w2; exact w2.elim
  | some od =>
    rw [e] at w2 q
    cases od with
    | none => exact .inl ⟨q, s2.nx Ext.refl w2⟩
    | some d =>
      cases m with
      | zero => exact w2.elim
      | succ m =>
        have w3 := WQ.bind (show WQ X.K g ε α2 H2 ((fg d env2 h2).bind _) _ from w2)
        refine .inr ⟨q.1, fun σ' H' => ∃ α env h, Ext X.K α1 H1 α H' /\ cU X.K g α H' env σ' h /\ WQ X.K g ε α H' (gh sr.rdr fg mb m (i + 1) env h) (cv X.K g α H' E), fun σ' H' z => ⟨m, Nat.lt_succ_self _, z⟩, fun x H3 y => ?_⟩
        obtain ⟨α3, x3, hr3, rx⟩ := q.2 x H3 y
        refine ig α3 H3 h2 env2 σ2 d x _ (s2.ext x3 hr3) rx ((w3.ext x3).mono fun e4 h4 _ w4 σ4 H4 α4 x4 s4 => ?_)
        refine tMS.use s4 ((w4.ext x3).ext x4).bind fun fl h5 H5 α5 x5 hr5 w5 => ?_
        have tr : Ext X.K α2 H2 α5 H5 := x3.trans (x4.trans x5)
        cases fl with
        | nx e => exact fun σ' s' => ⟨α5, e, h5, x2.trans tr, s', ((w5.ext x5)).mono fun _ _ _ p => p.ext tr⟩
        | ct e => exact fun σ' s' => ⟨α5, e, h5, x2.trans tr, s', ((w5.ext x5)).mono fun _ _ _ p => p.ext tr⟩
        | bk e => exact fun σ' s' => (show cv X.K g α2 H2 E (.nx e) h5 from w5) H5 α5 tr hr5 σ' s'.vs
        | rt d => exact fun v rv => (show cv X.K g α2 H2 E (.rt d) h5 from w5) H5 α5 tr hr5 v rv
theorem aU.lst {K : PySem.W.Frag} {α : List Addr} {H : Hp} {h : Hh} {n : Nat} {ds : List D} (r : aU K g α H h) (e : aD h n = some ds) {p : Addr} (hp : α[n]? = some p) : ∃ vs, H p = some (.lst vs) /\ aw K g α H ds vs := by
  unfold aD at e
  cases o : h[n]? with
  | none => rw [o] at e; cases e
  | some o' =>
    rw [o] at e
    have q := r.here n p o' hp o
    cases o' with
    | lst ds' => cases e; obtain ⟨vs, a, b⟩ := q; exact ⟨vs, a, b⟩
    | set n => cases e
    | dic k => cases e
    | dit k => cases e
noncomputable def r_ : D -> Hh -> R Src
  | .tup ds, h => .ok (.snap ds) h
  | .frl ds, h => .ok (.snap ds) h
  | .scr ds, h => .ok (.snap ds) h
  | .ref n, h => match aD h n with
    | some _ => .ok (.live n) h
    | none => .bad
  | _, _ => .bad
noncomputable def cK (a : ME) : MI := fun env h => (a env h).bind r_
noncomputable def Cv (K : PySem.W.Frag) (tl : TE) : TI := fun σ H R => tl σ H fun x H1 => ∃ a, x = .ref a /\ (((∃ xs, SqL K H1 a xs) /\ R (Itl K a) H1) \/ ((∃ xs, SqT K H1 a xs) /\ R (Itt K a) H1))
theorem zo {tg l : Expr} {tl : TE} (hl : PE X l tl) : PI X tg l (Cv X.K tl) := by
  intro pins s σ H R I h
  refine thn (hl pins s σ H _ I h) fun v s1 ⟨x, H1, I1, r1, q1⟩ => ?_
  obtain ⟨a, e, q⟩ := q1
  subst e
  cases r1
  rcases q with ⟨⟨xs, hq⟩, q⟩ | ⟨⟨xs, hq⟩, q⟩
  · obtain ⟨its, rv, p, hz⟩ := I1.list hq
    refine wpAny_pyIter_list p.isList ?_
    refine ⟨s1.heap.objs.size, [s1.heap.objs.size], _, _, H1, rfl, I1.kept (t' := s1.toks) fun b o e => Heap.get?_push_of_some _ e, se a _, ⟨_, Heap.get?_push_size _ rfl, rfl, rfl⟩, fun b hb => ?_, q⟩
    have e : b = s1.heap.objs.size := by simpa using hb
    subst e
    exact I1.zB (Nat.le_refl _) (I1.hok.fresh (Nat.le_refl _))
  · obtain ⟨its, rv, p, hz⟩ := I1.tuple hq
    refine wpAny_pyIter_tuple (show s1.heap.IsTuple a its.toArray from p) ?_
    refine ⟨s1.heap.objs.size, [s1.heap.objs.size], _, _, H1, rfl, I1.kept (t' := s1.toks) fun b o e => Heap.get?_push_of_some _ e, pY a _, ⟨_, Heap.get?_push_size _ rfl, rfl, rfl⟩, fun b hb => ?_, q⟩
    have e : b = s1.heap.objs.size := by simpa using hb
    subst e
    exact I1.zB (Nat.le_refl _) (I1.hok.fresh (Nat.le_refl _))
theorem sO {K : PySem.W.Frag} {α : List Addr} {H : Hp} {a : Addr} {ds : List D} {vs : List V} (hq' : H a = some (.tup vs)) (rs : aw K g α H ds vs) : Reads K g (Itt K a) (Src.snap ds).rdr α H := by
  intro α2 H2 h2 x2 hr i
  have hq2 : SqT K H2 a vs := SqT.of (x2.tup _ _ hq')
  have rs2 := rs.ext x2
  show match some ds[i]? with | none => True | some none => _ | some (some d) => _
  cases e : ds[i]? with
  | none =>
    have : ds.length <= i := List.getElem?_eq_none_iff.mp e
    exact ⟨vs, hq2, by rw [<- rs.length]; exact this⟩
  | some d =>
    obtain ⟨v, ev, rv⟩ := rs2.get e
    refine ⟨⟨vs, v, hq2, ev⟩, fun x H' y => ?_⟩
    obtain ⟨e1, e2⟩ := y
    subst e1
    have := e2 vs hq2
    rw [ev] at this
    cases this
    exact ⟨α2, Ext.refl, hr, rv⟩
theorem mC {K : PySem.W.Frag} {α : List Addr} {H : Hp} {a : Addr} {ds : List D} {vs : List V} (hq : Fro K H a vs) (rs : aw K g α H ds vs) : Reads K g (Itl K a) (Src.snap ds).rdr α H := by
  intro α2 H2 h2 x2 hr i
  have hq2 := x2.fro _ _ hq
  have rs2 := rs.ext x2
  show match some ds[i]? with | none => True | some none => _ | some (some d) => _
  cases e : ds[i]? with
  | none =>
    have : ds.length <= i := List.getElem?_eq_none_iff.mp e
    exact ⟨vs, hq2.sq, by rw [<- rs.length]; exact this⟩
  | some d =>
    obtain ⟨v, ev, rv⟩ := rs2.get e
    refine ⟨⟨vs, v, hq2.sq, ev⟩, fun x H' y => ?_⟩
    obtain ⟨e1, e2⟩ := y
    subst e1
    have := e2 vs hq2.sq
    rw [ev] at this
    cases this
    exact ⟨α2, Ext.refl, hr, rv⟩
theorem sD {K : PySem.W.Frag} {α : List Addr} {H : Hp} {a : Addr} {n : Nat} (ha : α[n]? = some a) : Reads K g (Itl K a) (Src.live n).rdr α H := by
  intro α2 H2 h2 x2 hr i
  show match (aD h2 n).map fun ds => ds[i]? with | none => True | some none => _ | some (some d) => _
  cases e : aD h2 n with
  | none => trivial
  | some ds =>
    obtain ⟨vs, hq', rs⟩ := hr.lst e (x2.get ha)
    have hq : SqL K H2 a vs := SqL.of hq'
    show match some ds[i]? with | none => True | some none => _ | some (some d) => _
    cases ei : ds[i]? with
    | none =>
      have : ds.length <= i := List.getElem?_eq_none_iff.mp ei
      exact ⟨vs, hq, by rw [<- rs.length]; exact this⟩
    | some d =>
      obtain ⟨v, ev, rv⟩ := rs.get ei
      refine ⟨⟨vs, v, hq, ev⟩, fun x H' y => ?_⟩
      obtain ⟨e1, e2⟩ := y
      subst e1
      have := e2 vs hq
      rw [ev] at this
      cases this
      exact ⟨α2, Ext.refl, hr, rv⟩
theorem fj {tg e : Expr} {me : ME} (he : PE X e (tM X.K g ε me)) : PI X tg e (tMI X.K g ε (cK me)) :=
  PI.imp (zo he) fun σ H T ⟨α, env, h, s, w⟩ => tM.use s w.bind fun d1 h1 v1 H1 α1 e1 s1 r1 w1 => by
    unfold r_ at w1
    cases r1 with
    | tup hq rs => exact ⟨_, rfl, .inr ⟨⟨_, SqT.of hq⟩, w1 _ H1 α1 e1 s1.heap (sO hq rs)⟩⟩
    | frl hq rs => exact ⟨_, rfl, .inl ⟨⟨_, hq.sq⟩, w1 _ H1 α1 e1 s1.heap (mC hq.fro rs)⟩⟩
    | scr hq rs => exact ⟨_, rfl, .inl ⟨⟨_, hq.sq⟩, w1 _ H1 α1 e1 s1.heap (mC hq rs)⟩⟩
    | @ref n p hp =>
      cases el : aD h1 n with
      | none => simp only [el] at w1; exact w1.elim
      | some ds =>
        simp only [el] at w1
        obtain ⟨vs, hq, _⟩ := s1.heap.lst el hp
        exact ⟨p, rfl, .inl ⟨⟨_, SqL.of hq⟩, w1 _ H1 α1 e1 s1.heap (sD hp)⟩⟩
    | _ => exact w1.elim
noncomputable def aP (lo : Int) (n : Nat) : List D := (List.range n).map fun (i : Nat) => D.int (lo + i)
noncomputable def gG : List D -> Hh -> R Src
  | [.int j], h => if j.natAbs <= 1000000 then .ok (.snap (aP 0 j.toNat)) h else .bad
  | _, _ => .bad
noncomputable def h9 : List D -> Hh -> R Src
  | [.int i, .int j], h => if i.natAbs <= 1000000 /\ j.natAbs <= 1000000 then .ok (.snap (aP i (j - i).toNat)) h else .bad
  | _, _ => .bad
noncomputable def dF (f : List D -> Hh -> R Src) (a : MA) : MI := fun env h => (a env h).bind f
theorem l_ {K : PySem.W.Frag} {α : List Addr} {H : Hp} {lo : Int} {n : Nat} : Reads K g (Itr lo n) (Src.snap (aP lo n)).rdr α H := by
  intro α2 H2 h2 x2 hr i
  show match some (aP lo n)[i]? with | none => True | some none => _ | some (some d) => _
  unfold aP
  rw [List.getElem?_map]
  by_cases hi : i < n
  · rw [List.getElem?_range hi]
    refine ⟨hi, fun x H' y => ?_⟩
    obtain ⟨e1, e2⟩ := y
    subst e1 e2
    exact ⟨α2, Ext.refl, hr, .int _⟩
  · rw [List.getElem?_eq_none (by simpa using hi)]
    exact Nat.le_of_not_lt hi
theorem hE {tg a : Expr} {ma : MA} {p pos : Pos} (hg : Gl X "range") (hm : X.mg "range" = none) (ha : PA X [a] (tMA X.K g ε ma)) (hs : starEach [a] X.env = [(false, eval a X.env)] := by rfl) : PI X tg (.Call (.Name "range" p) [a] [] pos) (tMI X.K g ε (dF gG ma)) :=
  PI.imp (rX hg hm ha hs) fun σ H T ⟨α, env, h, s, w⟩ => tMA.use s w.bind fun d1 h1 v1 H1 α1 e1 s1 r1 w1 => by
    unfold gG at w1
    cases r1 with
    | nil => exact w1.elim
    | cons ra rr =>
      cases rr with
      | cons _ _ => cases ra <;> exact w1.elim
      | nil =>
        cases ra with
        | int j =>
          obtain ⟨hj, w2⟩ := WQ.eU w1
          exact ⟨j, rfl, by omega, by omega, w2 _ H1 α1 e1 s1.heap l_⟩
        | _ => exact w1.elim
theorem g9 {tg a b : Expr} {ma : MA} {p pos : Pos} (hg : Gl X "range") (hm : X.mg "range" = none) (ha : PA X [a, b] (tMA X.K g ε ma)) (hs : starEach [a, b] X.env = [(false, eval a X.env), (false, eval b X.env)] := by rfl) (hs2 : starEach [b] X.env = [(false, eval b X.env)] := by rfl) : PI X tg (.Call (.Name "range" p) [a, b] [] pos) (tMI X.K g ε (dF h9 ma)) :=
  PI.imp (sy hg hm ha hs hs2) fun σ H T ⟨α, env, h, s, w⟩ => tMA.use s w.bind fun d1 h1 v1 H1 α1 e1 s1 r1 w1 => by
    unfold h9 at w1
    split at w1
    · cases r1 with
      | cons ra rr =>
        cases ra
        cases rr with
        | cons rb rr =>
          cases rb
          cases rr
          obtain ⟨hj, w2⟩ := WQ.eU w1
          exact ⟨_, _, rfl, ⟨by omega, by omega, by omega, by omega⟩, w2 _ H1 α1 e1 s1.heap l_⟩
    · exact w1.elim
noncomputable def di (c : MT) (b : MS) : Nat -> En -> Hh -> R Fl
  | 0, _, _ => .bad
  | k + 1, env, h => (c env h).bind fun x h1 => if x = true then (b env h1).bind fun fl h2 => match fl with
      | .nx e => di c b k e h2
      | .ct e => di c b k e h2
      | .bk e => .ok (.nx e) h2
      | .rt d => .ok (.rt d) h2
    else .ok (.nx env) h1
noncomputable def gB (fuel : Nat) (c : MT) (b : MS) : MS := fun env h => di c b fuel env h
theorem rj {c : Expr} {body : List Stmt} {mc : MT} {mb : MS} {pos : Pos} (fuel : Nat) (hp : PassesOwn (model X.prog X.w) X.A X.env X.xe) (hc : PT X c (tMT X.K g ε mc)) (hb : PSs X body (tMS X.K g ε mb)) : PS X (.While c body [] pos) (tMS X.K g ε (gB fuel mc mb)) := by
  refine PS.imp (uK hp hc hb) fun E σ H ⟨α, env, h, s, w⟩ => ?_
  refine ⟨fun m σ H => ∃ α env h, cU X.K g α H env σ h /\ WQ X.K g ε α H (di mc mb m env h) (cv X.K g α H E), ⟨fuel, α, env, h, s, w⟩, ?_⟩
  rintro m σ2 H2 ⟨α2, env2, h2, s2, w2⟩
  cases m with
  | zero => exact w2.elim
  | succ m =>
    refine tMT.use s2 (WQ.bind (show WQ X.K g ε α2 H2 ((mc env2 h2).bind _) _ from w2)) fun b h3 H3 α3 x3 s3 w3 => ?_
    cases b with
    | false => rw [if_neg Bool.false_ne_true] at w3 ⊢; exact s3.nx x3 w3
    | true =>
      rw [if_pos rfl] at w3 ⊢
      refine ⟨fun σ' H' => ∃ α env h, cU X.K g α H' env σ' h /\ WQ X.K g ε α H' (di mc mb m env h) (cv X.K g α H' E), fun σ' H' z => ⟨m, Nat.lt_succ_self _, z⟩, ?_⟩
      refine tMS.use s3 (w3.ext x3).bind fun fl h5 H5 α5 x5 hr5 w5 => ?_
      have tr : Ext X.K α2 H2 α5 H5 := x3.trans x5
      cases fl with
      | nx e => exact fun σ' s' => ⟨α5, e, h5, s', (w5.ext x5).mono fun _ _ _ p => p.ext tr⟩
      | ct e => exact fun σ' s' => ⟨α5, e, h5, s', (w5.ext x5).mono fun _ _ _ p => p.ext tr⟩
      | bk e => exact fun σ' s' => (show cv X.K g α2 H2 E (.nx e) h5 from w5) H5 α5 tr hr5 σ' s'.vs
      | rt d => exact fun v rv => (show cv X.K g α2 H2 E (.rt d) h5 from w5) H5 α5 tr hr5 v rv
end
noncomputable abbrev E00 : EE := fun _ _ _ => False
noncomputable abbrev MF := List D -> Hh -> R D
noncomputable def cJ (n : Nat) (m : MS) : MF := fun ds h => (m (ds.map some ++ List.replicate (n - ds.length) none) h).bind fun fl h1 => match fl with
  | .rt d => .ok d h1
  | .nx _ => .ok .non h1
  | _ => .bad
noncomputable def spG (K : PySem.W.Frag) (g : GG) (ε : XK -> EE) (np : Nat) (m : MF) : Sp := fun vs H Q E => vs.length = np /\ ∃ α ds h, aw K g α H ds vs /\ aU K g α H h /\ WQ K g (ε E) α H (m ds h) (aK K g α H Q)
noncomputable abbrev spM (K : PySem.W.Frag) (g : GG) (np : Nat) (m : MF) : Sp := spG K g (fun _ => E00) np m
theorem rH {K : PySem.W.Frag} {g : GG} {α : List Addr} {H : Hp} {N : List Str} {ds : List D} {vs : List V} (r : aw K g α H ds vs) : jL K g α H (ds.map some ++ List.replicate (N.length - ds.length) none) (start N vs) := by
  have hl := r.length
  refine ⟨by simp [start, hl], fun i d h => ?_⟩
  by_cases hi : i < ds.length
  · rw [List.getElem?_append_left (by simpa using hi), List.getElem?_map] at h
    cases e : ds[i]? with
    | none => rw [e] at h; cases h
    | some d' =>
      rw [e] at h
      cases h
      obtain ⟨v, ev, rv⟩ := r.get e
      refine ⟨v, ?_, rv⟩
      unfold start
      rw [List.getElem?_append_left (by simp; omega), List.getElem?_map, ev]
      rfl
  · rw [List.getElem?_append_right (by simpa using hi), List.getElem?_replicate] at h
    split at h <;> cases h
section
variable {P : Program} {w : World} {K : PySem.W.Frag} {mg : Str -> Option Value} {base : Heap} {g : GG}
theorem eV {x qual : Str} {st : Stmt} {f : Addr} {fd : FuncData} {N ps : List Str} {k : Nat} {mb : MS} (F : Fun K x qual st f fd) (S : a_ N ps (ay st))
    (hb : ∀ (cdv : Value) (A : Around) (outer : List Env) (s : Shared) (H : Hp) (E : XK), fG k (A.deeper (envOfC qual (ay st) s.heap.objs.size f cdv)) →
      PSs (p9 CX0 P w K mg base N qual (ay st) f cdv A outer s H E).nox (fP st) (tMS K g E00 mb)) : eC P w K mg base CX0 (k + 1) f fd ps (spM K g ps.length (cJ N.length mb)) := by
  refine F.ok S (fun vs H Q E h => h.1) fun cdv A outer s H vs Q E hr h => ⟨_, hb cdv A outer s H E hr, ?_⟩
  obtain ⟨hl, α, ds, h, rs, hh, w⟩ := h
  refine tMS.use ⟨hh, rH rs⟩ w.bind fun fl h' H' α' e r kk => ?_
  cases fl with
  | nx e' => exact fun σ' s' => (show aK K g α H Q .non h' from kk) _ H' α' e r .non
  | bk e' => exact kk.elim
  | ct e' => exact kk.elim
  | rt d => exact fun v rv => (show aK K g α H Q d h' from kk) _ H' α' e r rv
end
section
variable {X : Cx} {g : GG}
theorem aC {k : Nat} {f : Addr} {fd : FuncData} {ps : List Str} {m : MF} {np : Nat} {x : Str} {p pos : Pos} {e : Expr} {es : List Expr} {mr : MA} (F : eC X.prog X.w X.K X.mg X.base CX0 k f fd ps (spM X.K g np m)) (hr : fG k X.A) (hg : Gl X x) (hm : X.mg x = some (.ref f)) (hk : PySem.W.keepIn X.K (.ref f) = true) (hb : Binds X.K fd ps [])
    (ha : PA X (e :: es) (tMA X.K g E00 mr)) (hlen : ∀ env h ds h', mr env h = .ok ds h' -> ds.length = np) (hdb : (x == ("__debug__" : Str)) = false := by decide) (he : starEach (e :: es) X.env = (false, eval e X.env) :: starEach es X.env := by rfl) (hpl : (backTo pos (starEach es X.env)).any (·.1) = false := by rfl) :
    PE X (.Call (.Name x p) (e :: es) [] pos) (tM X.K g E00 (ah m mr)) :=
  PE.imp (xc F hr hg hm hk hb .nil AV ha hdb he hpl) fun σ H Q ⟨α, env, h, s, w⟩ => ⟨α, env, h, s, w.bind.mono fun d1 h1 eq w1 v1 H1 α1 e1 hr1 r1 => by
    show spM X.K g np m (v1 ++ []) H1 Q E0
    rw [List.append_nil]
    refine ⟨?_, α1, d1, h1, r1, hr1, w1.post e1⟩
    rw [<- r1.length]
    exact hlen env h d1 h1 eq⟩
theorem aB : ∀ env h ds h', aq env h = .ok ds h' -> ds.length = 0 := fun env h ds h' e => by cases e; rfl
theorem ai {a : ME} {r : MA} {n : Nat} (q : ∀ env h ds h', r env h = .ok ds h' -> ds.length = n) : ∀ env h ds h', aa a r env h = .ok ds h' -> ds.length = n + 1 := fun env h ds h' e => by
  unfold aa at e
  cases e1 : a env h with
  | ok d h1 =>
    rw [e1] at e
    cases e2 : r env h1 with
    | ok ds2 h2 =>
      have e3 : (R.ok (d :: ds2) h2 : R (List D)) = .ok ds h' := by simpa [R.bind, e2] using e
      cases e3
      simp [q env h1 ds2 h' e2]
    | err x h2 => simp [R.bind, e2] at e
    | bad => simp [R.bind, e2] at e
  | err x h2 => rw [e1] at e; cases e
  | bad => rw [e1] at e; cases e
end
noncomputable def i6 (ix : List Nat) (env : En) (d : D) : En := some d :: ix.map fun i => (env[i]?).join
noncomputable def tt1 : MT := fun _ h => .ok true h
noncomputable def gb (rd : Rdr) (tt : MT) (te : ME) (ee : D -> En) : Nat -> Nat -> List D -> Hh -> R (List D)
  | k, i, acc, h => match rd h i with
    | none => .bad
    | some none => .ok acc h
    | some (some d) => match k with
      | 0 => .bad
      | k + 1 => (tt (ee d) h).bind fun b h1 => if b = true then (te (ee d) h1).bind fun y h2 => gb rd tt te ee k (i + 1) (acc ++ [y]) h2 else gb rd tt te ee k (i + 1) acc h1
noncomputable def cS (tt : MT) (te : ME) (ee : D -> En) : List D -> Hh -> R (List D)
  | [], h => .ok [] h
  | d :: ds, h => (tt (ee d) h).bind fun b h1 => if b = true then (te (ee d) h1).bind fun y h2 => (cS tt te ee ds h2).bind fun ys h3 => .ok (y :: ys) h3 else cS tt te ee ds h1
theorem cI {β γ δ : Type} (r : R β) (f : β -> Hh -> R γ) (k : γ -> Hh -> R δ) : (r.bind f).bind k = r.bind fun b h => (f b h).bind k := by cases r <;> rfl
theorem uw (tt : MT) (te : ME) (ee : D -> En) (all : List D) : ∀ (ds : List D) (i : Nat) (acc : List D) (h : Hh), all.drop i = ds -> gb (Src.snap all).rdr tt te ee ds.length i acc h = (cS tt te ee ds h).bind fun ys h' => .ok (acc ++ ys) h' := by
  intro ds
  induction ds with
  | nil =>
    intro i acc h e
    have : all[i]? = none := by
      have := congrArg List.length e
      simp at this
      exact List.getElem?_eq_none (by omega)
    unfold gb cS Src.rdr
    simp [this, R.bind]
  | cons d ds ih =>
    intro i acc h e
    have h0 : all[i]? = some d := by
      have := congrArg (fun l => l[0]?) e
      simpa using this
    have h1 : all.drop (i + 1) = ds := by
      have := congrArg List.tail e
      simpa using this
    unfold gb cS
    have : (Src.snap all).rdr h i = some (some d) := by unfold Src.rdr; simp [h0]
    rw [this]
    show ((tt (ee d) h).bind _) = _
    rw [cI]
    congr 1
    funext b h2
    cases b with
    | false => rw [if_neg Bool.false_ne_true, if_neg Bool.false_ne_true]; exact ih (i + 1) acc h2 h1
    | true =>
      rw [if_pos rfl, if_pos rfl, cI]
      congr 1
      funext y h3
      rw [cI]
      have := ih (i + 1) (acc ++ [y]) h3 h1
      rw [this]
      congr 1
      funext ys h4
      show R.ok (acc ++ [y] ++ ys) h4 = R.ok (acc ++ (y :: ys)) h4
      simp
noncomputable def cL (nl : NL) (mi : MI) (ix : List Nat) (tt : MT) (te : ME) : ME := fun env h => (mi env h).bind fun sr h1 => if sr.fuel h1 <= 1000000 then
  (match sr with
    | .snap ds => cS tt te (i6 ix env) ds h1
    | .live n => gb (Src.live n).rdr tt te (i6 ix env) ((aD h1 n).getD []).length 0 [] h1
    | .liveE n => gb (Src.liveE n).rdr tt te (i6 ix env) ((aD h1 n).getD []).length 0 [] h1).bind nl else .bad
theorem ug {nl : NL} {mi : MI} {ix : List Nat} {tt : MT} {te : ME} {env : En} {h : Hh} : cL nl mi ix tt te env h = (mi env h).bind fun sr h1 => if sr.fuel h1 <= 1000000 then (gb sr.rdr tt te (i6 ix env) (sr.fuel h1) 0 [] h1).bind nl else .bad := by
  unfold cL
  congr 1
  funext sr h1
  cases sr with
  | snap ds =>
    have := uw tt te (i6 ix env) ds ds 0 [] h1 rfl
    simp only [List.nil_append] at this
    have e : (Src.snap ds).fuel h1 = ds.length := rfl
    rw [e, this, cI]
    rfl
  | live n => rfl
  | liveE n => rfl
theorem wY {K : PySem.W.Frag} {g : GG} {α : List Addr} {H : Hp} {env : En} {σ : St} {ix : List Nat} {d : D} {v : V} (s : jL K g α H env σ) (r : aE K g α H d v) : jL K g α H (i6 ix env d) ((eS ix σ).set 0 (some v)) := by
  refine ⟨by simp [i6, eS], fun i e h => ?_⟩
  cases i with
  | zero =>
    have : d = e := by simpa [i6] using h
    subst this
    exact ⟨v, by simp [eS], r⟩
  | succ i =>
    have h' : (ix.map fun i => (env[i]?).join)[i]? = some (some e) := by simpa [i6] using h
    rw [List.getElem?_map] at h'
    cases ei : ix[i]? with
    | none => rw [ei] at h'; cases h'
    | some j =>
      rw [ei] at h'
      have h2 : (env[j]?).join = some e := by simpa using h'
      cases ej : env[j]? with
      | none => rw [ej] at h2; cases h2
      | some oe =>
        rw [ej] at h2
        have h3 : oe = some e := by simpa using h2
        subst h3
        obtain ⟨u, eu, ru⟩ := s.vars j e ej
        refine ⟨u, ?_, ru⟩
        simp only [eS, List.set_cons_zero, List.getElem?_cons_succ, List.getElem?_map, ei, Option.map_some, eu]
        rfl
section
variable {X : Cx} {g : GG}
theorem ku : PTs X [] (tMT X.K g E00 tt1) := fun pins s σ H Q I ⟨α, env, h, s', w⟩ => v_ pins s σ H Q I (w H α Ext.refl s'.heap)
theorem qe {c : Expr} {mt : MT} (h : PT X c (tMT X.K g E00 mt)) : PTs X [c] (tMT X.K g E00 mt) := vv h
theorem oG {K : PySem.W.Frag} {nl : NL} [iW nl] {mi : MI} {tt : MT} {te : ME} {ix : List Nat} {σ : St} {H : Hp} {Q R : VK} (hR : ∀ v H, iG Q v H -> R v H) (t : tM K g E00 (cL nl mi ix tt te) σ H Q) : uh (tMI K g E00 mi) ix (tMT K g E00 tt) (tM K g E00 te) σ H R := by
  obtain ⟨α, env, h, s, w⟩ := t
  rw [ug] at w
  refine ⟨α, env, h, s, w.bind.mono fun sr h1 _ w1 J H1 α1 e1 hr1 rd => fun acc hacc => ?_⟩
  obtain ⟨hf, w1⟩ := WQ.eU w1
  have s1 := s.ext e1 hr1
  refine ⟨fun i m ys H => ∃ α h as, Ext K α1 H1 α H /\ aU K g α H h /\ aw K g α H as ys /\ H acc = some (.lst ys) /\ acc ∉ α /\ as.length + m <= 1000000 ∧
    WQ K g E00 α1 H1 ((gb sr.rdr tt te (i6 ix env) m i as h).bind nl) (aK K g α1 H1 Q),
    ⟨sr.fuel h1, α1, h1, [], Ext.fresh hacc, hr1.grow hacc, .nil, bg, hr1.free hacc, by simpa using hf, w1.post e1⟩, ?_⟩
  rintro i m ys H2 ⟨α2, h2, as, x2, hr2, ra, ha, hna, hm, w2⟩
  have q := rd α2 H2 h2 x2 hr2 i
  unfold gb at w2
  cases e : sr.rdr h2 i with
  | none => rw [e] at w2; exact w2.elim
  | some od =>
    rw [e] at w2 q
    cases od with
    | none =>
      refine .inl ⟨q, ?_⟩
      exact hR _ _ <| iW.at' (show WQ K g E00 α1 H1 (nl as h2) _ from w2) (fun _ _ z => z) x2 hr2 ra ha hna hacc
    | some d =>
      cases m with
      | zero => exact w2.elim
      | succ m =>
        rw [cI] at w2
        have w3 := WQ.bind (show WQ K g E00 α1 H1 ((tt (i6 ix env d) h2).bind _) _ from w2)
        refine .inr ⟨q.1, fun x H3 y => ?_⟩
        obtain ⟨α3, x3, hr3, rx⟩ := q.2 x H3 y
        have ha3 := x3.keep _ _ ha hna
        have hna3 : acc ∉ α3 := fun z => by have := x3.new _ z hna; rw [ha] at this; cases this
        have s3 : cU K g α3 H3 (i6 ix env d) ((eS ix σ).set 0 (some x)) h2 := ⟨hr3, wY (s1.vs.ext (x2.trans x3)) rx⟩
        refine tMT.use s3 ((w3.ext x2).ext x3) fun b h4 H4 α4 x4 s4 w4 => ?_
        have ha4 := x4.keep _ _ ha3 hna3
        have hna4 : acc ∉ α4 := fun z => by have := x4.new _ z hna3; rw [ha3] at this; cases this
        cases b with
        | false =>
          rw [if_neg Bool.false_ne_true] at w4 ⊢
          exact ⟨m, Nat.lt_succ_self _, α4, h4, as, x2.trans (x3.trans x4), s4.heap, ra.ext (x3.trans x4), ha4, hna4, by omega, w4⟩
        | true =>
          rw [if_pos rfl] at w4 ⊢
          rw [cI] at w4
          refine tM.use s4 (((WQ.bind w4).ext x2).ext (x3.trans x4)) fun y h5 v5 H5 α5 x5 s5 r5 w5 => ?_
          have ha5 := x5.keep _ _ ha4 hna4
          have hna5 : acc ∉ α5 := fun z => by have := x5.new _ z hna4; rw [ha4] at this; cases this
          have soft : vP H5 acc := .inr ⟨_, ha5, fun _ z => (nomatch z), fun _ _ z => nomatch z⟩
          have x6 : Ex0 K α5 H5 α5 (upd H5 acc (.lst (ys ++ [v5]))) := Ex0.upd soft
          have tr := x2.trans (x3.trans (x4.trans x5))
          refine ⟨ha5, ?_, m, Nat.lt_succ_self _, α5, h5, as ++ [y], ⟨tr.toEx0.trans x6, fun p o z n => ?_, tr.new⟩, s5.heap.off soft hna5, ((ra.ext (x3.trans (x4.trans x5))).append (.cons r5 .nil)).ex0 x6, bg, hna5, by rw [List.length_append]; simp; omega, w5⟩
          · rw [<- ra.length, sizeLine_eq]; omega
          · rw [aS (cn z hacc)]; exact tr.keep p o z n
end
noncomputable def sml (i : Int) : Bool := decide (i.natAbs < 2 ^ 1900)
theorem lh {i : Int} (h : sml i = true) : Builtin.Int.intBits i <= 1900 := by
  have h' : i.natAbs < 2 ^ 1900 := of_decide_eq_true h
  unfold Builtin.Int.intBits
  split
  · omega
  · rename_i z
    have z' : i.natAbs ≠ 0 := by
      intro q
      apply z
      have : i = 0 := Int.natAbs_eq_zero.mp q
      rw [this]; rfl
    have := (Nat.log2_lt z').mpr h'
    omega
theorem nA {i : Int} (h : sml i = true) : i.natAbs.log2 < 1900 := by
  have h' : i.natAbs < 2 ^ 1900 := of_decide_eq_true h
  by_cases z : i.natAbs = 0
  · rw [z]; decide
  · exact (Nat.log2_lt z).mpr h'
theorem dE {i : Int} (h : i.natAbs <= 10 ^ 560) : sml i = true := by
  refine decide_eq_true (Nat.lt_of_le_of_lt h (by decide +kernel))
section
variable {X : Cx} {K : PySem.W.Frag} {g : GG} {ε : EE}
theorem OpR.or {f : Value -> Value -> Sem Value} {r r' : R2} (h : OpR X f r) (h' : OpR X f r') : OpR X f (fun x y H Q => r x y H Q \/ r' x y H Q) := fun pins s σ H x y v u Q I rx ry q => q.elim (h pins s σ H x y v u Q I rx ry) (h' pins s σ H x y v u Q I rx ry)
noncomputable def jj (d : D) (h : Hh) : Option (List D) := match d with
  | .frl ds => some ds
  | .ref n => aD h n
  | _ => none
theorem n4 {α : List Addr} {H : Hp} {h : Hh} {d : D} {x : V} {ds : List D} (r : aU K g α H h) (rd : aE K g α H d x) (e : jj d h = some ds) : ∃ p vs, x = .ref p /\ Rd H p (.lst vs) /\ aw K g α H ds vs := by
  unfold jj at e
  cases rd with
  | frl hq rs => cases e; exact ⟨_, _, rfl, hq.rd, rs⟩
  | ref hp => obtain ⟨vs, hv, rs⟩ := r.lst e hp; exact ⟨_, vs, rfl, .inl hv, rs⟩
  | _ => cases e
noncomputable def xD : R2 := fun x y H Q => ∃ l b xs zs, x = .ref l /\ y = .ref b /\ Rd H l (.lst xs) /\ Rd H b (.lst zs) /\ xs.length + zs.length <= sizeLine /\ ∀ p, H p = none -> Q (.ref p) (upd H p (.lst (xs ++ zs)))
theorem vM {X : Cx} {pins : List (Addr × Obj)} {σ : St} {H : Hp} {s : Shared} {l : Addr} {xs : List V} (I : Inv X pins σ H s) (h : Rd H l (.lst xs)) : ∃ (its : List Value) (n : Nat), xs.length <= sizeLine /\ Vals xs its /\ xs.length = its.length /\ s.heap.get? l = some { cls := .type "list", data := .seq its.toArray n } := by
  obtain ⟨z, its, n, r, e⟩ := h.ok I.hok
  exact ⟨its, n, z, r, r.length, e⟩
theorem wG : OpR X (binaryOp .Add) xD := by
  intro pins s σ H x y v u Q I rx ry h
  obtain ⟨l, b, xs, zs, rfl, rfl, hH, hB, hz, q⟩ := h
  cases rx
  cases ry
  obtain ⟨its, n, z, r, hl, e⟩ := vM I hH
  obtain ⟨its2, n2, z2, r2, hl2, e2⟩ := vM I hB
  refine PySem.P.add_list e e2 ?_ (by rw [List.size_toArray, List.size_toArray]; omega)
  have ea : its.toArray ++ its2.toArray = (its ++ its2).toArray := by simp
  rw [ea]
  exact ⟨.ref _, _, I.vQ (t' := s.toks) (r.append r2) (by rw [List.length_append]; omega), rfl, q _ I.fresh⟩
noncomputable def bh (nl : NL) : D -> D -> Hh -> R D := fun x y h => match x, y with
  | .int i, .int j => .ok (.int (i + j)) h
  | .tup a, .tup b => if a.length + b.length <= 1000000 then .ok (.tup (a ++ b)) h else .bad
  | .str a, .str b => if a.length + b.length <= 1000000 then .ok (.str (a ++ b)) h else .bad
  | x, y => match jj x h, jj y h with
    | some a, some b => if a.length + b.length <= 1000000 then nl (a ++ b) h else .bad
    | _, _ => .bad
noncomputable abbrev vc (K : PySem.W.Frag) : R2 := fun x y H Q => (rI0 fun i j => .int (i + j)) x y H Q \/ (xI K x y H Q \/ tX K x y H Q) \/ xD x y H Q \/ ∃ i j, x = .str i /\ y = .str j /\ i.length + j.length <= sizeLine /\ Q (.str (i ++ j)) H
theorem bf : OpR X (binaryOp .Add) (fun x y H Q => vc X.K x y H (iG Q)) := OpR.frz (OpR.or yg (OpR.or (OpR.or vC tK) (OpR.or wG qu)))
theorem aK.so {α : List Addr} {H : Hp} {h : Hh} {Q : VK} {d : D} {v : V} (p : aK K g α H Q d h) (r : aU K g α H h) (rd : aE K g α H d v) : iG Q v H := .inl (p.now r rd)
theorem ba {nl : NL} [iW nl] : eh K g ε (bh nl) (fun x y H Q => vc K x y H (iG Q)) := by
  intro α H h a b x y Q r ra rb w
  have gen : ∀ {a b : D} {x y : V}, aE K g α H a x -> aE K g α H b y -> WQ K g ε α H (match jj a h, jj b h with
    | some a, some b => if a.length + b.length <= 1000000 then nl (a ++ b) h else .bad
    | _, _ => .bad) (aK K g α H Q) -> vc K x y H (iG Q) := by
    intro a b x y ra rb w
    cases e1 : jj a h with
    | none => simp only [e1] at w; exact w.elim
    | some da =>
      cases e2 : jj b h with
      | none => simp only [e1, e2] at w; exact w.elim
      | some db =>
        simp only [e1, e2] at w
        obtain ⟨p, va, rfl, hva, rsa⟩ := n4 r ra e1
        obtain ⟨q, vb, rfl, hvb, rsb⟩ := n4 r rb e2
        obtain ⟨hl, w⟩ := WQ.eU w
        refine .inr (.inr (.inl ⟨p, q, va, vb, rfl, rfl, hva, hvb, eW (by rw [<- rsa.length, <- rsb.length]; exact hl), fun l hl' => ?_⟩))
        exact NL.post w r (rsa.append rsb) hl'
  unfold bh at w
  split at w
  · cases ra
    cases rb
    exact .inl ⟨_, _, rfl, rfl, aK.so w r (.int _)⟩
  · cases ra with
    | @tup da pa va ha rsa =>
      cases rb with
      | @tup db pb vb hb rsb =>
        obtain ⟨hl, w⟩ := WQ.eU w
        refine .inr (.inl ?_)
        cases va with
        | nil =>
          cases rsa
          exact .inr ⟨_, _, _, rfl, rfl, SqT.of ha, SqT.of hb, aK.so w r (.tup hb rsb)⟩
        | cons z zs =>
          refine .inl ⟨_, _, _, _, rfl, rfl, SqT.of ha, SqT.of hb, by simp, eW (by rw [<- rsa.length, <- rsb.length]; exact hl), fun e => ?_, fun _ p hp => .inl (aK.tup w r (rsa.append rsb) hp)⟩
          subst e
          cases rsb
          refine aK.so w r (.tup ha ?_)
          rw [List.append_nil]; exact rsa
  · cases ra
    cases rb
    obtain ⟨hl, w⟩ := WQ.eU w
    exact .inr (.inr (.inr ⟨_, _, rfl, rfl, eW hl, aK.so w r (.str _)⟩))
  · exact gen ra rb w
noncomputable def dg : D -> D -> Hh -> R D
  | .int i, .int j, h => .ok (.int (i - j)) h
  | _, _, _ => .bad
theorem cZ : eh K g ε dg (rI0 fun i j => .int (i - j)) := by
  intro α H h a b x y Q r ra rb w
  unfold dg at w
  cases ra with
  | int i =>
    cases rb with
    | int j => exact ⟨i, j, rfl, rfl, aK.now w r (.int _)⟩
    | _ => exact w.elim
  | _ => exact w.elim
noncomputable def xF : R2 := fun x y H Q => ∃ l k xs, x = .ref l /\ y = .int k /\ Rd H l (.lst xs) /\ -(2 ^ 63) <= k /\ k < 2 ^ 63 /\ xs.length * k.toNat <= sizeLine ∧
  ∀ p, H p = none -> Q (.ref p) (upd H p (.lst (List.replicate k.toNat xs).flatten))
theorem v8 : OpR X (binaryOp .Mult) xF := by
  intro pins s σ H x y v u Q I rx ry h
  obtain ⟨l, k, xs, rfl, rfl, hH, h1, h2, hz, q⟩ := h
  cases rx
  obtain ⟨t, rfl⟩ := ry
  obtain ⟨its, n, z, r, hl, e⟩ := vM I hH
  have hlen : its.toArray.size * k.toNat <= sizeLine := by rw [List.size_toArray, <- hl]; exact hz
  have hcap : ¬ its.toArray.size * k.toNat > (2 ^ 63 - 1) / 8 := by
    have : (sizeLine : Nat) <= (2 ^ 63 - 1) / 8 := by decide
    omega
  have hfit : ¬ (!Builtin.List.listFitsIndex k) = true := by
    rw [fitsIndex_both h1 h2]
    exact Bool.false_ne_true
  have hlong : ¬ Builtin.List.listTooLong (its.toArray.size * k.toNat) = true := by
    rw [oB hlen]
    exact Bool.false_ne_true
  have hnew : List.foldl (fun x1 x2 => x1 ++ x2) #[] (List.replicate (if its.toArray.isEmpty = true then 0 else k.toNat) its.toArray) = (List.replicate k.toNat its).flatten.toArray := by
    have f0 : ∀ m : Nat, List.foldl (fun x1 x2 => x1 ++ x2) #[] (List.replicate m its.toArray) = (List.replicate m its).flatten.toArray := fun m => by
      have := foldl_rep its m []
      rw [List.nil_append] at this
      exact this
    rw [f0]
    cases its with
    | nil => simp
    | cons a r' => rw [if_neg (by simp)]
  refine wpAny_binaryOp_repeat_ref (T := "list") (U := "int") (by decide) ⟨_, e, rfl⟩ (fun s' => typeIs_int s' k t) noFill_list_mul F.fills_int_mul F.slot_int_rmul repeat_list F.slot_int_index.lookup
    (call_meets F.slot_int_rmul (typeIs_int s k t) F.entry_int_rmul (F.args_int_rmul_2 _ _) (int___rmul___int_list k t l its.toArray n)
      ⟨e, rfl, ⟨_, e, rfl⟩, call_meets F.slot_list_mul ⟨_, e, rfl⟩ F.entry_list_mul (F.args_list_mul_2 _ _) (AutoListH.list___mul___list_int_3 l its.toArray n k t hfit hcap hlong) ⟨e, ?_⟩⟩)
  rw [hnew]
  exact ⟨.ref _, _, I.vQ (t' := s.toks) (r.rep k.toNat) (by rw [len_rep, Nat.mul_comm]; exact hz), rfl, q _ I.fresh⟩
noncomputable def cp (nl : NL) : D -> D -> Hh -> R D := fun x y h => match x, y with
  | .int i, .int j => if sml i = true /\ sml j = true then .ok (.int (i * j)) h else .bad
  | x, .int k => match jj x h with
    | some ds => if k.natAbs <= 1000000 /\ ds.length * k.toNat <= 1000000 then nl (List.replicate k.toNat ds).flatten h else .bad
    | none => .bad
  | _, _ => .bad
theorem xi : OpR X (binaryOp .Mult) (rI (fun i j => sml i = true /\ sml j = true) fun i j => .int (i * j)) := opI fun _ _ _ _ _ _ _ hc q => mul_int q (IntMulOk.of_bits (Nat.le_trans (lh hc.1) (by decide)) (Nat.le_trans (lh hc.2) (by decide)))
noncomputable abbrev uz : R2 := fun x y H Q => (rI (fun i j => sml i = true /\ sml j = true) fun i j => .int (i * j)) x y H Q \/ xF x y H Q
theorem b_ : OpR X (binaryOp .Mult) (fun x y H Q => uz x y H (iG Q)) := OpR.frz (OpR.or xi v8)
theorem cc {nl : NL} [iW nl] : eh K g ε (cp nl) (fun x y H Q => uz x y H (iG Q)) := by
  intro α H h a b x y Q r ra rb w
  have gen : ∀ {a : D} {k : Int} {x : V}, aE K g α H a x -> WQ K g ε α H (match jj a h with
    | some ds => if k.natAbs <= 1000000 /\ ds.length * k.toNat <= 1000000 then nl (List.replicate k.toNat ds).flatten h else .bad
    | none => .bad) (aK K g α H Q) -> uz x (.int k) H (iG Q) := by
    intro a k x ra w
    cases e1 : jj a h with
    | none => simp only [e1] at w; exact w.elim
    | some ds =>
      simp only [e1] at w
      obtain ⟨hl, w⟩ := WQ.eU w
      obtain ⟨p, vs, rfl, hv, rs⟩ := n4 r ra e1
      refine .inr ⟨p, k, vs, rfl, rfl, hv, by omega, by omega, eW (by rw [<- rs.length]; exact hl.2), fun l hl' => ?_⟩
      exact NL.post w r (rs.flat k.toNat) hl'
  unfold cp at w
  split at w
  · cases ra
    cases rb
    obtain ⟨hc, w⟩ := WQ.eU w
    exact .inl ⟨_, _, rfl, rfl, hc, aK.so w r (.int _)⟩
  · cases rb
    exact gen ra w
  · exact w.elim
noncomputable def tO : D -> D -> Hh -> R D
  | .int i, .int j, h => if 0 < j /\ sml j = true then .ok (.int (i / j)) h else .bad
  | _, _, _ => .bad
theorem o6 : OpR X (binaryOp .FloorDiv) (rI (fun i j => 0 < j /\ sml j = true) fun i j => .int (i / j)) := opI fun i j _ _ _ _ _ hc q => by
  have e : i.fdiv j = i / j := Int.fdiv_eq_ediv_of_nonneg _ (by omega)
  refine floordiv_int (by omega) ?_ (.inl (PyProof.noPylong_of_log2 (Nat.lt_trans (nA hc.2) (by decide))))
  rw [e]; exact q
theorem t9 : eh K g ε tO (rI (fun i j => 0 < j /\ sml j = true) fun i j => .int (i / j)) := by
  intro α H h a b x y Q r ra rb w
  unfold tO at w
  cases ra with
  | int i =>
    cases rb with
    | int j =>
      obtain ⟨hc, w⟩ := WQ.eU w
      exact ⟨i, j, rfl, rfl, hc, aK.now w r (.int _)⟩
    | _ => exact w.elim
  | _ => exact w.elim
noncomputable def oW : D -> D -> Hh -> R D
  | .int i, .int j, h => if 0 < j then .ok (.int (i % j)) h else .bad
  | _, _, _ => .bad
theorem lq : eh K g ε oW (rI (fun _ j => 0 < j) fun i j => .int (i % j)) := by
  intro α H h a b x y Q r ra rb w
  unfold oW at w
  cases ra with
  | int i =>
    cases rb with
    | int j =>
      obtain ⟨hc, w⟩ := WQ.eU w
      exact ⟨i, j, rfl, rfl, hc, aK.now w r (.int _)⟩
    | _ => exact w.elim
  | _ => exact w.elim
noncomputable def wR : D -> D -> Hh -> R D
  | .int i, .int j, h => if 0 <= j /\ j.natAbs <= 1000 /\ sml i = true then .ok (.int (i ^ j.toNat)) h else .bad
  | _, _, _ => .bad
theorem vU : OpR X (binaryOp .Pow) (rI (fun i j => 0 <= j /\ j.natAbs <= 1000 /\ sml i = true) fun i j => .int (i ^ j.toNat)) := opI fun i j _ _ _ _ _ hc q => pow_int hc.1 (by
  have := lh hc.2.2
  have h1 : ((Builtin.Int.intBits i : Nat) : Int) <= 1900 := by exact_mod_cast this
  calc ((Builtin.Int.intBits i : Nat) : Int) * j <= 1900 * j := Int.mul_le_mul_of_nonneg_right h1 hc.1
    _ <= 1900 * 1000 := Int.mul_le_mul_of_nonneg_left (show j <= 1000 by have := hc.2.1; omega) (by decide)
    _ <= 2 ^ 27 := by decide) q
theorem yt : eh K g ε wR (rI (fun i j => 0 <= j /\ j.natAbs <= 1000 /\ sml i = true) fun i j => .int (i ^ j.toNat)) := by
  intro α H h a b x y Q r ra rb w
  unfold wR at w
  cases ra with
  | int i =>
    cases rb with
    | int j =>
      obtain ⟨hc, w⟩ := WQ.eU w
      exact ⟨i, j, rfl, rfl, hc, aK.now w r (.int _)⟩
    | _ => exact w.elim
  | _ => exact w.elim
noncomputable def sP (p : Int -> Int -> Bool) : D -> D -> Hh -> R D
  | .int i, .int j, h => .ok (.bl (p i j)) h
  | _, _, _ => .bad
noncomputable def ltI : Int -> Int -> Bool
  | .ofNat a, .ofNat b => Nat.blt a b
  | .ofNat _, .negSucc _ => false
  | .negSucc _, .ofNat _ => true
  | .negSucc a, .negSucc b => Nat.blt b a
theorem kN : ltI = fun i j => decide (i < j) := by
  funext i j
  cases i with
  | ofNat a =>
    cases j with
    | ofNat b =>
      show Nat.blt a b = _
      rw [Bool.eq_iff_iff, Nat.blt_eq, decide_eq_true_iff]
      exact Int.ofNat_lt.symm
    | negSucc b => exact (decide_eq_false (by have : Int.ofNat a = (a : Int) := rfl; omega)).symm
  | negSucc a =>
    cases j with
    | ofNat b => exact (decide_eq_true (by have : Int.ofNat b = (b : Int) := rfl; omega)).symm
    | negSucc b =>
      show Nat.blt b a = _
      rw [Bool.eq_iff_iff, Nat.blt_eq, decide_eq_true_iff]
      omega
noncomputable def leI (i j : Int) : Bool := !ltI j i
theorem mX : leI = fun i j => decide (i <= j) := by
  funext i j
  unfold leI
  rw [kN, Bool.eq_iff_iff]
  simp
noncomputable def dLt : D -> D -> Hh -> R D := sP ltI
noncomputable def dLe : D -> D -> Hh -> R D := sP leI
noncomputable def dGt : D -> D -> Hh -> R D := sP fun i j => ltI j i
noncomputable def dGe : D -> D -> Hh -> R D := sP fun i j => leI j i
theorem mO {p : Int -> Int -> Bool} : eh K g ε (sP p) (rI0 fun i j => .bl (p i j)) := by
  intro α H h a b x y Q r ra rb w
  unfold sP at w
  cases ra with
  | int i =>
    cases rb with
    | int j => exact ⟨i, j, rfl, rfl, aK.now w r (.bl _)⟩
    | _ => exact w.elim
  | _ => exact w.elim
theorem xM : eh K g ε dLt (rI0 fun i j => .bl (decide (i < j))) := by
  unfold dLt; rw [kN]; exact mO
theorem oN : eh K g ε dLe (rI0 fun i j => .bl (decide (i <= j))) := by
  unfold dLe; rw [mX]; exact mO
theorem ux : eh K g ε dGt (rI0 fun i j => .bl (decide (j < i))) := by
  unfold dGt; rw [kN]; exact mO
theorem xm : eh K g ε dGe (rI0 fun i j => .bl (decide (j <= i))) := by
  unfold dGe; rw [mX]; exact mO
noncomputable def gf (d : D) (h : Hh) : Option (List D) := match d with
  | .tup ds => some ds
  | .frl ds => some ds
  | .scr ds => some ds
  | .ref n => aD h n
  | _ => none
theorem n8 {α : List Addr} {H : Hp} {h : Hh} {d : D} {x : V} {ds : List D} (r : aU K g α H h) (rd : aE K g α H d x) (e : gf d h = some ds) : ∃ p vs, x = .ref p /\ (SqL K H p vs \/ SqT K H p vs) /\ aw K g α H ds vs := by
  unfold gf at e
  cases rd with
  | tup hq rs => cases e; exact ⟨_, _, rfl, .inr (SqT.of hq), rs⟩
  | frl hq rs => cases e; exact ⟨_, _, rfl, .inl hq.sq, rs⟩
  | scr hq rs => cases e; exact ⟨_, _, rfl, .inl hq.sq, rs⟩
  | ref hp => obtain ⟨vs, hv, rs⟩ := r.lst e hp; exact ⟨_, vs, rfl, .inl (SqL.of hv), rs⟩
  | _ => cases e
noncomputable def dIx : D -> D -> Hh -> R D := fun a b h => match gf a h, b with
  | some ds, .int i => match atI ds i with
    | some d => .ok d h
    | none => .bad
  | _, _ => .bad
theorem vV {α : List Addr} {H : Hp} {ds : List D} {vs : List V} {i : Int} {d : D} (rs : aw K g α H ds vs) (e : atI ds i = some d) : ∃ v, atI vs i = some v /\ aE K g α H d v := by
  unfold atI at e ⊢
  rw [<- rs.length]
  cases e1 : ixN ds.length i with
  | none => rw [e1] at e; cases e
  | some j =>
    rw [e1] at e
    exact rs.get e
theorem bB : eh K g ε dIx (rIx K) := by
  intro α H h a b x y Q r ra rb w
  unfold dIx at w
  cases e1 : gf a h with
  | none => simp only [e1] at w; exact w.elim
  | some ds =>
    simp only [e1] at w
    obtain ⟨p, vs, rfl, hq, rs⟩ := n8 r ra e1
    cases rb with
    | int i =>
      cases e2 : atI ds i with
      | none => simp only [e2] at w; exact w.elim
      | some d =>
        simp only [e2] at w
        obtain ⟨v, ev, rv⟩ := vV rs e2
        rcases hq with hq | hq
        · exact .inl ⟨p, vs, i, v, rfl, rfl, hq, ev, aK.now w r rv⟩
        · exact .inr (.inl ⟨p, vs, i, v, rfl, rfl, hq, ev, aK.now w r rv⟩)
    | _ => exact w.elim
noncomputable def dX : D -> D -> D -> Hh -> R Unit := fun o i v h => match o, i with
  | .ref n, .int k => match aD h n with
    | some ds => match ixN ds.length k with
      | some j => .ok () (h.set n (.lst (ds.set j v)))
      | none => .bad
    | none => .bad
  | _, _ => .bad
theorem iY : zT K g ε dX xH := by
  intro α H h o i v x y z Q r ro ri rv w
  unfold dX at w
  cases ro with
  | @ref n p hp =>
    cases ri with
    | int k =>
      cases e1 : aD h n with
      | none => simp only [e1] at w; exact w.elim
      | some ds =>
        simp only [e1] at w
        cases e2 : ixN ds.length k with
        | none => simp only [e2] at w; exact w.elim
        | some j =>
          simp only [e2] at w
          obtain ⟨vs, hv, rs⟩ := r.lst e1 hp
          refine ⟨p, vs, k, j, rfl, rfl, hv, by rw [<- rs.length]; exact e2, ?_⟩
          have x := Ext.write (o := .lst (vs.set j z)) r hp
          exact w _ α x (r.write hp ⟨_, bg, (rs.set rv j).ext x⟩)
    | _ => exact w.elim
  | _ => exact w.elim
noncomputable def cutD (xs : List D) (lo hi : Option Int) : List D := (xs.drop (HT.sIx xs.length 0 lo)).take (HT.sIx xs.length xs.length hi - HT.sIx xs.length 0 lo)
theorem jl {α : List Addr} {H : Hp} {ds : List D} {vs : List V} (rs : aw K g α H ds vs) (lo hi : Option Int) : aw K g α H (cutD ds lo hi) (lN vs lo hi) := by
  unfold cutD lN
  rw [<- rs.length]
  exact (rs.drop _).take _
noncomputable abbrev MO := En -> Hh -> R (Option Int)
noncomputable def mB (a : ME) : MO := fun env h => (a env h).bind fun d h1 => match d with
  | .int i => .ok (some i) h1
  | _ => .bad
noncomputable def tMO (K : PySem.W.Frag) (g : GG) (ε : EE) (m : MO) : TO := fun σ H Q => ∃ α env h, cU K g α H env σ h /\ WQ K g ε α H (m env h) fun o h' => ∀ H' α', Ext K α H α' H' -> aU K g α' H' h' -> Q o H'
theorem PO.imp {e : Option Expr} {t t' : TO} (h : PO X e t) (i : ∀ σ H Q, t' σ H Q -> t σ H Q) : PO X e t' := fun pins s σ H Q I w => h pins s σ H Q I (i σ H Q w)
theorem qM {e : Expr} {me : ME} (he : PE X e (tM X.K g ε me)) : PO X (some e) (tMO X.K g ε (mB me)) := PO.imp (wZ he) fun σ H Q ⟨α, env, h, s, w⟩ => tM.use s w.bind fun d1 h1 v1 H1 α1 e1 s1 r1 w1 => by
  cases r1 with
  | int i => exact ⟨i, rfl, w1 H1 α1 e1 s1.heap⟩
  | _ => exact w1.elim
noncomputable def vG (nl : NL) : D -> Option Int -> Option Int -> Hh -> R D := fun d lo hi h => match d with
  | .tup ds => .ok (.tup (cutD ds lo hi)) h
  | .frl ds => nl (cutD ds lo hi) h
  | .scr ds => nl (cutD ds lo hi) h
  | .ref n => match aD h n with
    | some ds => nl (cutD ds lo hi) h
    | none => .bad
  | _ => .bad
noncomputable def mQ (nl : NL) (a : ME) (l u : MO) : ME := fun env h => (a env h).bind fun x h1 => (l env h1).bind fun lo h2 => (u env h2).bind fun hi h3 => vG nl x lo hi h3
theorem tMO.use {α : List Addr} {H : Hp} {env : En} {σ : St} {h : Hh} {m : MO} {Q : Option Int -> Hp -> Prop} {k : Option Int -> Hh -> Prop} (s : cU K g α H env σ h) (w : WQ K g ε α H (m env h) k)
    (q : ∀ d h' H' α', Ext K α H α' H' -> cU K g α' H' env σ h' -> k d h' -> Q d H') : tMO K g ε m σ H Q :=
  ⟨α, env, h, s, w.mono fun d h' _ kk H' α' e r => q d h' H' α' e (s.ext e r) kk⟩
theorem ur {nl : NL} [iW nl] {e : Expr} {me : ME} {lo hi : Option Expr} {ml mh : MO} {p2 pos : Pos} (he : PE X e (tM X.K g ε me)) (hl : PO X lo (tMO X.K g ε ml)) (hu : PO X hi (tMO X.K g ε mh)) : PE X (.Subscript e (.Slice lo hi none p2) pos) (tM X.K g ε (mQ nl me ml mh)) :=
  PE.imp (PE.frz (u0 (SlR.or wz (SlR.or zx wq)) he hl hu)) fun σ H Q ⟨α, env, h, s, w⟩ => tM.use s w.bind fun d1 h1 v1 H1 α1 e1 s1 r1 w1 => tMO.use s1 (w1.ext e1).bind fun o2 h2 H2 α2 e2 s2 w2 => tMO.use s2 (w2.ext e2).bind fun o3 h3 H3 α3 e3 s3 w3 => by
    have tr := e1.trans (e2.trans e3)
    have r3 := r1.ext (e2.trans e3)
    have w4 := (w3.ext e3).mono fun _ _ _ p => aK.ext tr p
    unfold vG at w4
    cases r3 with
    | @frl ds p vs hq rs => exact .inl ⟨_, _, rfl, hq.sq, fun l hl => NL.post w4 s3.heap (jl rs _ _) hl⟩
    | @scr ds p vs hq rs => exact .inl ⟨_, _, rfl, hq.sq, fun l hl => NL.post w4 s3.heap (jl rs _ _) hl⟩
    | @ref n p hp =>
      cases e1 : aD h3 n with
      | none => simp only [e1] at w4; exact w4.elim
      | some ds =>
        simp only [e1] at w4
        obtain ⟨vs, hv, rs⟩ := s3.heap.lst e1 hp
        exact .inl ⟨_, _, rfl, SqL.of hv, fun l hl => NL.post w4 s3.heap (jl rs _ _) hl⟩
    | @tup ds p vs hq rs =>
      refine .inr ?_
      by_cases hw : HT.sIx vs.length 0 o2 = 0 /\ HT.sIx vs.length vs.length o3 = vs.length
      · refine .inr ⟨_, _, rfl, SqT.of hq, hw.1, hw.2, ?_⟩
        refine aK.so w4 s3.heap (.tup hq ?_)
        have : lN vs o2 o3 = vs := by unfold lN; rw [hw.1, hw.2]; simp
        have q := jl rs o2 o3
        rw [this] at q
        exact q
      · exact .inl ⟨_, _, rfl, SqT.of hq, hw, fun l hl => .inl (aK.tup w4 s3.heap (jl rs _ _) hl)⟩
    | _ => exact w4.elim
end
noncomputable def ef : D -> Bool
  | .non => true | .bl _ => true | .int _ => true | .str _ => true
  | _ => false
noncomputable def eqF : D -> D -> Bool
  | .non, .non => true
  | .bl a, .bl b => a == b
  | .bl a, .int b => (if a then 1 else 0) == b
  | .int a, .bl b => a == (if b then 1 else 0)
  | .int a, .int b => a == b
  | .str a, .str b => a == b
  | _, _ => false
noncomputable def eqL (f : D -> D -> Option Bool) : List D -> List D -> Option Bool
  | x :: xs, y :: ys => match f x y, eqL f xs ys with
    | some b, some c => some (b && c)
    | _, _ => none
  | [], [] => some true
  | _, _ => some false
inductive Vw where
  | fl | tp (ds : List D) | ls (ds : List D) | no
noncomputable def vw (d : D) (h : Hh) : Vw := match d with
  | .non => .fl | .bl _ => .fl | .int _ => .fl | .str _ => .fl
  | .tup ds => .tp ds
  | .frl ds => .ls ds
  | .scr ds => .ls ds
  | .ref n => match aD h n with
    | some ds => .ls ds
    | none => .no
  | _ => .no
noncomputable def eqD : Nat -> Hh -> D -> D -> Option Bool
  | 0, _, _, _ => none
  | k + 1, h, a, b => match vw a h, vw b h with
    | .fl, .fl => some (eqF a b)
    | .tp xs, .tp ys => eqL (eqD k h) xs ys
    | .ls xs, .ls ys => if xs.length = ys.length then eqL (eqD k h) xs ys else some false
    | .fl, .tp _ => some false
    | .fl, .ls _ => some false
    | .tp _, .fl => some false
    | .tp _, .ls _ => some false
    | .ls _, .fl => some false
    | .ls _, .tp _ => some false
    | _, _ => none
section
variable {K : PySem.W.Frag} {g : GG} {α : List Addr} {H : Hp} {h : Hh}
theorem kU {f : D -> D -> Option Bool} (hf : ∀ a b x c, aE K g α H a x -> aE K g α H b x -> f a b = some c -> c = true) : ∀ {xs ys : List D} {vs : List V} {c : Bool}, aw K g α H xs vs -> aw K g α H ys vs -> eqL f xs ys = some c -> c = true
  | _, _, _, _, .nil, .nil, e => by simp [eqL] at e; exact e
  | _, _, _, c, .cons r t, .cons r' t', e => by
    unfold eqL at e
    split at e
    · rename_i b c' h1 h2
      have e1 := hf _ _ _ _ r r' h1
      have e2 := kU hf t t' h2
      subst e1 e2
      exact (Option.some.inj e).symm
    · cases e
theorem jS {d : D} {x : V} (rd : aE K g α H d x) (e : vw d h = .fl) : ef d = true := by
  cases rd with
  | ref hp => unfold vw at e; simp only at e; split at e <;> cases e
  | _ => first | rfl | cases e
theorem jX {d : D} {x : V} {ds : List D} (rd : aE K g α H d x) (e : vw d h = .tp ds) : ∃ p vs, x = .ref p /\ SqT K H p vs /\ aw K g α H ds vs := by
  cases rd with
  | tup hp rs => cases e; exact ⟨_, _, rfl, SqT.of hp, rs⟩
  | ref hp => unfold vw at e; simp only at e; split at e <;> cases e
  | _ => cases e
theorem jR {d : D} {x : V} {ds : List D} (r : aU K g α H h) (rd : aE K g α H d x) (e : vw d h = .ls ds) : ∃ p vs, x = .ref p /\ SqL K H p vs /\ aw K g α H ds vs := by
  cases rd with
  | frl hp rs => cases e; exact ⟨_, _, rfl, hp.sq, rs⟩
  | scr hp rs => cases e; exact ⟨_, _, rfl, hp.sq, rs⟩
  | @ref n p hp =>
    unfold vw at e
    simp only at e
    cases el : aD h n with
    | none => rw [el] at e; cases e
    | some ds' =>
      rw [el] at e; cases e
      obtain ⟨vs, hv, rs⟩ := r.lst el hp
      exact ⟨_, _, rfl, SqL.of hv, rs⟩
  | _ => cases e
theorem qF {f : D -> D -> Option Bool} : ∀ {xs ys : List D} {c : Bool}, eqL f xs ys = some c →
    (∀ (j : Nat) (x y : D), xs[j]? = some x -> ys[j]? = some y -> ∃ b, f x y = some b) /\ c = ((List.range (min xs.length ys.length)).all (fun j => ((f (xs.getD j .non) (ys.getD j .non)).getD false)) && xs.length == ys.length)
  | [], [], c, e => by
    simp [eqL] at e
    refine ⟨fun j x y h => by simp at h, ?_⟩
    simp [<- e]
  | [], _ :: _, c, e => by
    simp [eqL] at e
    exact ⟨fun j x y h => by simp at h, by simp [<- e]⟩
  | _ :: _, [], c, e => by
    simp [eqL] at e
    exact ⟨fun j x y _ h => by simp at h, by simp [<- e]⟩
  | x :: xs, y :: ys, c, e => by
    unfold eqL at e
    split at e
    · rename_i b c' h1 h2
      obtain ⟨q1, q2⟩ := qF h2
      refine ⟨fun j x' y' hx hy => ?_, ?_⟩
      · cases j with
        | zero => simp at hx hy; subst hx hy; exact ⟨b, h1⟩
        | succ j => exact q1 j x' y' (by simpa using hx) (by simpa using hy)
      · have e' := (Option.some.inj e).symm
        rw [e', q2]
        have hm : min (x :: xs).length (y :: ys).length = min xs.length ys.length + 1 := by simp [Nat.succ_min_succ]
        rw [hm, List.range_succ_eq_map, List.all_cons, List.all_map]
        have h0 : (f ((x :: xs).getD 0 .non) ((y :: ys).getD 0 .non)).getD false = b := by
          show (f x y).getD false = b
          rw [h1]; rfl
        rw [h0]
        have hlen : ((x :: xs).length == (y :: ys).length) = (xs.length == ys.length) := by simp
        rw [hlen, Bool.and_assoc]
        rfl
    · cases e
end
section
variable {X : Cx} {g : GG} {pins : List (Addr × Obj)} {σ : St} {H : Hp} {s : Shared} {α : List Addr} {h : Hh}
open PySem.SeqAt
theorem wW {A : Around} {a b : D} {x y : V} {u v : Value} {K : PySem.W.Frag} (ra : aE K g α H a x) (rb : aE K g α H b y) (ru : RelV x u) (rv : RelV y v) (fa : ef a = true) (fb : ef b = true) :
    EqAt A s u v (eqF a b) /\ RcAt A s u v (eqF a b) /\ RcNeAt A s u v (!eqF a b) := by
  cases ra with
  | non =>
    cases ru
    cases rb with
    | non => cases rv; exact ⟨.same _, .none_none, .none_none⟩
    | bl z => cases rv; exact ⟨.none_bool z, .none_bool z, .none_bool z⟩
    | int z => obtain ⟨t, rfl⟩ := rv; exact ⟨.none_int z t, .none_int z t, .none_int z t⟩
    | str z => obtain ⟨t, rfl⟩ := rv; exact ⟨.none_str z t, .none_str z t, .none_str z t⟩
    | _ => cases fb
  | bl q =>
    cases ru
    cases rb with
    | non => cases rv; exact ⟨.bool_none q, .bool_none q, .bool_none q⟩
    | bl z => cases rv; exact ⟨.bool_bool q z, .bool_bool q z, .bool_bool q z⟩
    | int z => obtain ⟨t, rfl⟩ := rv; exact ⟨.bool_int q z t, .bool_int q z t, .bool_int q z t⟩
    | str z => obtain ⟨t, rfl⟩ := rv; exact ⟨.bool_str q z t, .bool_str q z t, .bool_str q z t⟩
    | _ => cases fb
  | int q =>
    obtain ⟨t', rfl⟩ := ru
    cases rb with
    | non => cases rv; exact ⟨.int_none q t', .int_none q t', .int_none q t'⟩
    | bl z => cases rv; exact ⟨.int_bool q t' z, .int_bool q t' z, .int_bool q t' z⟩
    | int z => obtain ⟨t, rfl⟩ := rv; exact ⟨.int_int q t' z t, .int_int q t' z t, .int_int q t' z t⟩
    | str z => obtain ⟨t, rfl⟩ := rv; exact ⟨.int_str q t' z t, .int_str q t' z t, .int_str q t' z t⟩
    | _ => cases fb
  | str q =>
    obtain ⟨t', rfl⟩ := ru
    cases rb with
    | non => cases rv; exact ⟨.str_none q t', .str_none q t', .str_none q t'⟩
    | bl z => cases rv; exact ⟨.str_bool q t' z, .str_bool q t' z, .str_bool q t' z⟩
    | int z => obtain ⟨t, rfl⟩ := rv; exact ⟨.str_int q t' z t, .str_int q t' z t, .str_int q t' z t⟩
    | str z => obtain ⟨t, rfl⟩ := rv; exact ⟨.str_str q t' z t, .str_str q t' z t, .str_str q t' z t⟩
    | _ => cases fb
  | _ => cases fa
theorem ot {A : Around} {b : D} {y : V} {v : Value} {p : Addr} {its : Array Value} {K : PySem.W.Frag} (ht : s.heap.IsTuple p its) (hu : A.units < cLine) (rb : aE K g α H b y) (rv : RelV y v) (fb : ef b = true) :
    (EqAt A s (.ref p) v false /\ RcAt A s (.ref p) v false /\ RcNeAt A s (.ref p) v true) /\ (EqAt A s v (.ref p) false /\ RcAt A s v (.ref p) false /\ RcNeAt A s v (.ref p) true) := by
  cases rb with
  | non => cases rv; exact ⟨⟨.tuple_none ht hu, .tuple_none ht hu, .tuple_none ht hu⟩, .none_tuple ht hu, .none_tuple ht hu, .none_tuple ht hu⟩
  | bl z => cases rv; exact ⟨⟨.tuple_bool z ht hu, .tuple_bool z ht hu, .tuple_bool z ht hu⟩, .bool_tuple z ht hu, .bool_tuple z ht hu, .bool_tuple z ht hu⟩
  | int z => obtain ⟨t, rfl⟩ := rv; exact ⟨⟨.tuple_int z t ht hu, .tuple_int z t ht hu, .tuple_int z t ht hu⟩, .int_tuple z t ht hu, .int_tuple z t ht hu, .int_tuple z t ht hu⟩
  | str z => obtain ⟨t, rfl⟩ := rv; exact ⟨⟨.tuple_str z t ht hu, .tuple_str z t ht hu, .tuple_str z t ht hu⟩, .str_tuple z t ht hu, .str_tuple z t ht hu, .str_tuple z t ht hu⟩
  | _ => cases fb
theorem om {A : Around} {b : D} {y : V} {v : Value} {p : Addr} {its : Array Value} {K : PySem.W.Frag} (ht : s.heap.IsList p its) (hu : A.units < cLine) (rb : aE K g α H b y) (rv : RelV y v) (fb : ef b = true) :
    (EqAt A s (.ref p) v false /\ RcAt A s (.ref p) v false /\ RcNeAt A s (.ref p) v true) /\ (EqAt A s v (.ref p) false /\ RcAt A s v (.ref p) false /\ RcNeAt A s v (.ref p) true) := by
  cases rb with
  | non => cases rv; exact ⟨⟨.list_none ht hu, .list_none ht hu, .list_none ht hu⟩, .none_list ht hu, .none_list ht hu, .none_list ht hu⟩
  | bl z => cases rv; exact ⟨⟨.list_bool z ht hu, .list_bool z ht hu, .list_bool z ht hu⟩, .bool_list z ht hu, .bool_list z ht hu, .bool_list z ht hu⟩
  | int z => obtain ⟨t, rfl⟩ := rv; exact ⟨⟨.list_int z t ht hu, .list_int z t ht hu, .list_int z t ht hu⟩, .int_list z t ht hu, .int_list z t ht hu, .int_list z t ht hu⟩
  | str z => obtain ⟨t, rfl⟩ := rv; exact ⟨⟨.list_str z t ht hu, .list_str z t ht hu, .list_str z t ht hu⟩, .str_list z t ht hu, .str_list z t ht hu, .str_list z t ht hu⟩
  | _ => cases fb
theorem pE {A : Around} {k : Nat} {ds es : List D} {vs us : List V} {its jts : List Value} {c : Bool} (r : aU X.K g α H h)
    (ih : ∀ (a b : D) (x y : V) (u v : Value) (c : Bool), aE X.K g α H a x -> aE X.K g α H b y -> RelV x u -> RelV y v -> eqD k h a b = some c -> EqAt A.in1 s u v c)
    (rs : aw X.K g α H ds vs) (rt : aw X.K g α H es us) (rv : Vals vs its) (ru : Vals us jts) (e : eqL (eqD k h) ds es = some c) :
    (∀ j (h1 : j < its.toArray.size) (h2 : j < jts.toArray.size), EqAt A.in1 s its.toArray[j] jts.toArray[j] ((fun (j : Nat) => (eqD k h (ds.getD j .non) (es.getD j .non)).getD false) j)) ∧
    c = ((List.range (min its.toArray.size jts.toArray.size)).all (fun (j : Nat) => (eqD k h (ds.getD j .non) (es.getD j .non)).getD false) && its.toArray.size == jts.toArray.size) := by
  obtain ⟨q1, q2⟩ := qF e
  have l1 : its.toArray.size = ds.length := by rw [List.size_toArray, <- rv.length, rs.length]
  have l2 : jts.toArray.size = es.length := by rw [List.size_toArray, <- ru.length, rt.length]
  refine ⟨fun j h1 h2 => ?_, by rw [l1, l2]; exact q2⟩
  have hd : ds[j]? = some (ds.getD j .non) := by rw [List.getD_eq_getElem?_getD, List.getElem?_eq_getElem (by omega)]; rfl
  have he : es[j]? = some (es.getD j .non) := by rw [List.getD_eq_getElem?_getD, List.getElem?_eq_getElem (by omega)]; rfl
  obtain ⟨b, hb⟩ := q1 j _ _ hd he
  obtain ⟨x, hx, rx⟩ := rs.get hd
  obtain ⟨y, hy, ry⟩ := rt.get he
  obtain ⟨u, hu, rxu⟩ := rv.get hx
  obtain ⟨v, hv, ryv⟩ := ru.get hy
  have eu : its.toArray[j] = u := by
    have := List.getElem?_eq_getElem (l := its) (i := j) (by simpa using h1)
    rw [hu] at this
    simpa using (Option.some.inj this).symm
  have ev : jts.toArray[j] = v := by
    have := List.getElem?_eq_getElem (l := jts) (i := j) (by simpa using h2)
    rw [hv] at this
    simpa using (Option.some.inj this).symm
  rw [eu, ev]
  show EqAt A.in1 s u v ((eqD k h (ds.getD j .non) (es.getD j .non)).getD false)
  rw [hb]
  exact ih _ _ _ _ _ _ _ rx ry rxu ryv hb
theorem qG (I : Inv X pins σ H s) {p : Addr} {vs us : List V} (a : SqT X.K H p vs) (b : SqL X.K H p us) : False := by
  obtain ⟨its, r1, ⟨o, e, c, _⟩, _⟩ := I.tuple a
  obtain ⟨jts, r2, ⟨o', n', e', c', _⟩, _⟩ := I.list b
  rw [e] at e'; cases e'; rw [c] at c'; injection c' with z; exact absurd z (by decide)
theorem kO (I : Inv X pins σ H s) (r : aU X.K g α H h) : ∀ (k : Nat) (a b : D) (x : V) (c : Bool), aE X.K g α H a x -> aE X.K g α H b x -> eqD k h a b = some c -> c = true
  | 0, _, _, _, _, _, _, e => by cases e
  | k + 1, a, b, x, c, ra, rb, e => by
    unfold eqD at e
    cases ea : vw a h with
    | no => simp [ea] at e
    | fl =>
      have fa := jS ra ea
      cases eb : vw b h with
      | no => simp [ea, eb] at e
      | fl =>
        simp only [ea, eb] at e
        cases e
        have fb := jS rb eb
        cases ra with
        | non => cases rb with
          | non => rfl
        | bl z => cases rb with
          | bl _ => simp [eqF]
        | int z => cases rb with
          | int _ => simp [eqF]
        | str z => cases rb with
          | str _ => simp [eqF]
        | _ => cases fa
      | tp ds => obtain ⟨p, vs, rfl, _⟩ := jX rb eb; cases ra <;> cases fa
      | ls ds => obtain ⟨p, vs, rfl, _⟩ := jR r rb eb; cases ra <;> cases fa
    | tp da =>
      obtain ⟨p, va, rfl, hp, rs⟩ := jX ra ea
      cases eb : vw b h with
      | no => simp [ea, eb] at e
      | fl => have fb := jS rb eb; cases rb <;> cases fb
      | tp db =>
        simp only [ea, eb] at e
        obtain ⟨q, vb, hpq, hq, rt⟩ := jX rb eb
        cases hpq
        have := I.mE hp hq
        subst this
        exact kU (fun a b x c => kO I r k a b x c) rs rt e
      | ls db =>
        obtain ⟨q, vb, hpq, hq, rt⟩ := jR r rb eb
        cases hpq
        exact (qG I hp hq).elim
    | ls da =>
      obtain ⟨p, va, rfl, hp, rs⟩ := jR r ra ea
      cases eb : vw b h with
      | no => simp [ea, eb] at e
      | fl => have fb := jS rb eb; cases rb <;> cases fb
      | tp db =>
        obtain ⟨q, vb, hpq, hq, rt⟩ := jX rb eb
        cases hpq
        exact (qG I hq hp).elim
      | ls db =>
        simp only [ea, eb] at e
        obtain ⟨q, vb, hpq, hq, rt⟩ := jR r rb eb
        cases hpq
        have := I.oD hp hq
        subst this
        rw [if_pos (by rw [rs.length, rt.length])] at e
        exact kU (fun a b x c => kO I r k a b x c) rs rt e
theorem qo (I : Inv X pins σ H s) (r : aU X.K g α H h) : ∀ (k : Nat) (A : Around) (a b : D) (x y : V) (u v : Value) (c : Bool), A.units + k < cLine -> aE X.K g α H a x -> aE X.K g α H b y -> RelV x u -> RelV y v -> eqD k h a b = some c →
    EqAt A s u v c /\ RcAt A s u v c /\ RcNeAt A s u v (!c)
  | 0, _, _, _, _, _, _, _, _, _, _, _, _, _, e => by cases e
  | k + 1, A, a, b, x, y, u, v, c, hu, ra, rb, ru, rv, e => by
    have hu0 : A.units < cLine := by omega
    have ih : ∀ (a b : D) (x y : V) (u v : Value) (c : Bool), aE X.K g α H a x -> aE X.K g α H b y -> RelV x u -> RelV y v -> eqD k h a b = some c -> EqAt A.in1 s u v c :=
      fun a b x y u v c h1 h2 h3 h4 h5 => (qo I r k A.in1 a b x y u v c (by show A.units + 1 + k < _; omega) h1 h2 h3 h4 h5).1
    have whole := fun x ra rb => kO I r (k + 1) a b x c ra rb e
    unfold eqD at e
    cases ea : vw a h with
    | no => simp [ea] at e
    | fl =>
      have fa := jS ra ea
      cases eb : vw b h with
      | no => simp [ea, eb] at e
      | fl => simp only [ea, eb] at e; cases e; exact wW ra rb ru rv fa (jS rb eb)
      | tp db =>
        simp only [ea, eb] at e; cases e
        obtain ⟨q, vb, rfl, hq, rt⟩ := jX rb eb
        cases rv
        obtain ⟨its, r1, ht, _⟩ := I.tuple hq
        exact (ot ht hu0 ra ru fa).2
      | ls db =>
        simp only [ea, eb] at e; cases e
        obtain ⟨q, vb, rfl, hq, rt⟩ := jR r rb eb
        cases rv
        obtain ⟨its, r1, ht, _⟩ := I.list hq
        exact (om ht.isList hu0 ra ru fa).2
    | tp da =>
      obtain ⟨p, va, rfl, hp, rs⟩ := jX ra ea
      cases ru
      obtain ⟨its, r1, ht, _⟩ := I.tuple hp
      cases eb : vw b h with
      | no => simp [ea, eb] at e
      | fl => simp only [ea, eb] at e; cases e; exact (ot ht hu0 rb rv (jS rb eb)).1
      | tp db =>
        simp only [ea, eb] at e
        obtain ⟨q, vb, rfl, hq, rt⟩ := jX rb eb
        cases rv
        obtain ⟨jts, r2, ht2, _⟩ := I.tuple hq
        obtain ⟨h1, h2⟩ := pE r ih rs rt r1 r2 e
        have rc : RcAt A s (.ref p) (.ref q) c := by rw [h2]; exact RcAt.tuples ht ht2 hu0 h1
        refine ⟨?_, rc, by rw [h2]; exact RcNeAt.tuples ht ht2 hu0 h1⟩
        by_cases hpq : p = q
        · subst hpq
          rw [whole _ ra rb]
          exact .same _
        · exact .of_refs hpq rc
      | ls db =>
        simp only [ea, eb] at e; cases e
        obtain ⟨q, vb, rfl, hq, rt⟩ := jR r rb eb
        cases rv
        obtain ⟨jts, r2, ht2, _⟩ := I.list hq
        exact ⟨.tuple_list ht ht2.isList hu0, .tuple_list ht ht2.isList hu0, .tuple_list ht ht2.isList hu0⟩
    | ls da =>
      obtain ⟨p, va, rfl, hp, rs⟩ := jR r ra ea
      cases ru
      obtain ⟨its, r1, ht', _⟩ := I.list hp
      have ht := ht'.isList
      cases eb : vw b h with
      | no => simp [ea, eb] at e
      | fl => simp only [ea, eb] at e; cases e; exact (om ht hu0 rb rv (jS rb eb)).1
      | tp db =>
        simp only [ea, eb] at e; cases e
        obtain ⟨q, vb, rfl, hq, rt⟩ := jX rb eb
        cases rv
        obtain ⟨jts, r2, ht2, _⟩ := I.tuple hq
        exact ⟨.list_tuple ht ht2 hu0, .list_tuple ht ht2 hu0, .list_tuple ht ht2 hu0⟩
      | ls db =>
        simp only [ea, eb] at e
        obtain ⟨q, vb, rfl, hq, rt⟩ := jR r rb eb
        cases rv
        obtain ⟨jts, r2, ht2', _⟩ := I.list hq
        have ht2 := ht2'.isList
        have l1 : its.toArray.size = da.length := by rw [List.size_toArray, <- r1.length, rs.length]
        have l2 : jts.toArray.size = db.length := by rw [List.size_toArray, <- r2.length, rt.length]
        have fin : RcAt A s (.ref p) (.ref q) c /\ RcNeAt A s (.ref p) (.ref q) (!c) := by
          by_cases hl : da.length = db.length
          · rw [if_pos hl] at e
            obtain ⟨h1, h2⟩ := pE r ih rs rt r1 r2 e
            have hsz : its.toArray.size = jts.toArray.size := by omega
            have h2' : c = (List.range its.toArray.size).all (fun (j : Nat) => (eqD k h (da.getD j .non) (db.getD j .non)).getD false) := by
              rw [h2, <- hsz, Nat.min_self]; simp
            exact ⟨by rw [h2']; exact RcAt.lists ht ht2 hsz hu0 h1, by rw [h2']; exact RcNeAt.lists ht ht2 hsz hu0 h1⟩
          · rw [if_neg hl] at e
            have e2 : c = false := (Option.some.inj e).symm
            have hsz : (its.toArray.size != jts.toArray.size) = true := by
              rw [l1, l2]; simpa using hl
            rw [e2]
            exact ⟨RcAt.lists_lengths ht ht2 hsz hu0, RcNeAt.lists_lengths ht ht2 hsz hu0⟩
        refine ⟨?_, fin⟩
        by_cases hpq : p = q
        · subst hpq
          rw [whole _ ra rb]
          exact .same _
        · exact .of_refs hpq fin.1
noncomputable abbrev eqN : Nat := 12
noncomputable def dEq : D -> D -> Hh -> R D := fun a b h => match eqD eqN h a b with
  | some c => .ok (.bl c) h
  | none => .bad
noncomputable def dNe : D -> D -> Hh -> R D := fun a b h => match eqD eqN h a b with
  | some c => .ok (.bl (!c)) h
  | none => .bad
noncomputable def vO (K : PySem.W.Frag) (g : GG) (neg : Bool) : R2 := fun x y H Q => ∃ α h a b c, aU K g α H h /\ aE K g α H a x /\ aE K g α H b y /\ eqD eqN h a b = some c /\ Q (.bl (if neg then !c else c)) H
theorem fk (hu : X.A.units + 64 < cLine) : OpR X (compareOp .Eq) (vO X.K g false) := by
  intro pins s σ H x y v u Q I rx ry ⟨α, h, a, b, c, r, ra, rb, e, q⟩
  exact (qo I r eqN X.A a b x y v u c (by show X.A.units + 12 < _; omega) ra rb rx ry e).2.1 _ _ _ _ ⟨.bl c, H, I, rfl, q⟩
theorem mR (hu : X.A.units + 64 < cLine) : OpR X (compareOp .NotEq) (vO X.K g true) := by
  intro pins s σ H x y v u Q I rx ry ⟨α, h, a, b, c, r, ra, rb, e, q⟩
  exact (qo I r eqN X.A a b x y v u c (by show X.A.units + 12 < _; omega) ra rb rx ry e).2.2 _ _ _ _ ⟨.bl (!c), H, I, rfl, q⟩
theorem iw {ε : EE} {K : PySem.W.Frag} : eh K g ε dEq (vO K g false) := by
  intro α H h a b x y Q r ra rb w
  unfold dEq at w
  cases e : eqD eqN h a b with
  | none => simp only [e] at w; exact w.elim
  | some c => simp only [e] at w; exact ⟨α, h, a, b, c, r, ra, rb, e, aK.now w r (.bl _)⟩
theorem qJ {ε : EE} {K : PySem.W.Frag} : eh K g ε dNe (vO K g true) := by
  intro α H h a b x y Q r ra rb w
  unfold dNe at w
  cases e : eqD eqN h a b with
  | none => simp only [e] at w; exact w.elim
  | some c => simp only [e] at w; exact ⟨α, h, a, b, c, r, ra, rb, e, aK.now w r (.bl _)⟩
end
noncomputable def gc (f : D -> Option PyData) : List D -> Option (List PyData)
  | [] => some []
  | d :: ds => match f d, gc f ds with
    | some p, some ps => some (p :: ps)
    | _, _ => none
noncomputable def toPy : Nat -> Hh -> D -> Option PyData
  | 0, _, _ => none
  | k + 1, h, d => match d with
    | .non => some .none
    | .bl b => some (.bool b)
    | .int i => if sml i = true then some (.int i) else none
    | .str x => if x.cps.toList.all (fun c => decide (c < 16 ^ 8)) = true then some (.str x) else none
    | .tup ds => (gc (toPy k h) ds).map .tuple
    | .frl ds => (gc (toPy k h) ds).map .list
    | .ref n => match aD h n with
      | some ds => (gc (toPy k h) ds).map .list
      | none => none
    | _ => none
structure Ay (k : Nat) (d : PyData) : Prop where
  sh : d.showable = true
  nd : d.hasDict = false
  dp : d.depth <= k
  lv : d.leavesShort 1921 = true
structure AN (k : Nat) (ds : List PyData) : Prop where
  sh : PyData.showableAll ds = true
  nd : PyData.hasDictAll ds = false
  dp : PyData.depthAll ds <= k
  lv : PyData.leavesShortAll 1921 ds = true
section
variable {K : PySem.W.Frag} {g : GG} {α : List Addr} {H : Hp} {h : Hh}
theorem iQ {f : D -> Option PyData} {k : Nat} (hf : ∀ d x p, aE K g α H d x -> f d = some p -> RdD K H x p /\ Ay k p) : ∀ {ds : List D} {vs : List V} {ps : List PyData}, aw K g α H ds vs -> gc f ds = some ps →
    AN k ps /\ vs.length = ps.length /\ ∀ (i : Nat) x d, vs[i]? = some x -> ps[i]? = some d -> RdD K H x d
  | _, _, _, .nil, e => by
    cases e
    exact ⟨⟨by simp [PyData.showableAll], by simp [PyData.hasDictAll], by simp [PyData.depthAll], by simp [PyData.leavesShortAll]⟩, rfl, fun i x d h => by simp at h⟩
  | _, _, _, .cons r t, e => by
    unfold gc at e
    split at e
    · rename_i p ps h1 h2
      cases e
      obtain ⟨a1, a2⟩ := hf _ _ _ r h1
      obtain ⟨b1, b2, b3⟩ := iQ hf t h2
      refine ⟨⟨by rw [PyData.showableAll, a2.sh, b1.sh]; rfl, by rw [PyData.hasDictAll, a2.nd, b1.nd]; rfl, by rw [PyData.depthAll]; exact Nat.max_le.mpr ⟨a2.dp, b1.dp⟩, by rw [PyData.leavesShortAll, a2.lv, b1.lv]; rfl⟩, by simp [b2], fun i x d hx hd => ?_⟩
      cases i with
      | zero => simp at hx hd; subst hx hd; exact a1
      | succ i => exact b3 i x d (by simpa using hx) (by simpa using hd)
    · cases e
theorem kl (r : aU K g α H h) : ∀ (k : Nat) (d : D) (x : V) (p : PyData), aE K g α H d x -> toPy k h d = some p -> RdD K H x p /\ Ay k p
  | 0, _, _, _, _, e => by cases e
  | k + 1, d, x, p, rd, e => by
    unfold toPy at e
    cases rd with
    | non => cases e; exact ⟨.non, by simp [PyData.showable], by simp [PyData.hasDict], by simp [PyData.depth], by simp [PyData.leavesShort]⟩
    | bl b => cases e; exact ⟨.bl b, by simp [PyData.showable], by simp [PyData.hasDict], by simp [PyData.depth], by simp [PyData.leavesShort]⟩
    | int i =>
      simp only at e
      split at e
      · rename_i hs
        cases e
        have hl : i.natAbs.log2 < 1920 := Nat.lt_trans (nA hs) (by decide)
        exact ⟨.int i, by simp [PyData.showable, hl], by simp [PyData.hasDict], by simp [PyData.depth], by simp only [PyData.leavesShort, decide_eq_true_eq]; exact int_text_len_1921 hl⟩
      · cases e
    | str z =>
      simp only at e
      split at e
      · rename_i hs
        cases e
        exact ⟨.str z, by simp [PyData.showable], by simp [PyData.hasDict], by simp [PyData.depth], by simpa only [PyData.leavesShort] using hs⟩
      · cases e
    | tup hp rs =>
      simp only at e
      cases e1 : gc (toPy k h) _ with
      | none => rw [e1] at e; cases e
      | some ps =>
        rw [e1] at e
        cases e
        obtain ⟨b1, b2, b3⟩ := iQ (fun d x p => kl r k d x p) rs e1
        exact ⟨.tup (SqT.of hp) b2 b3, by rw [PyData.showable]; exact b1.sh, by rw [PyData.hasDict]; exact b1.nd, by rw [PyData.depth]; exact Nat.succ_le_succ b1.dp, by rw [PyData.leavesShort]; exact b1.lv⟩
    | @ref n p hp =>
      simp only at e
      cases el : aD h n with
      | none => rw [el] at e; cases e
      | some ds =>
        rw [el] at e
        simp only at e
        obtain ⟨vs, hv, rs⟩ := r.lst el hp
        cases e1 : gc (toPy k h) ds with
        | none => rw [e1] at e; cases e
        | some ps =>
          rw [e1] at e
          cases e
          obtain ⟨b1, b2, b3⟩ := iQ (fun d x p => kl r k d x p) rs e1
          exact ⟨.lst (SqL.of hv) b2 b3, by rw [PyData.showable]; exact b1.sh, by rw [PyData.hasDict]; exact b1.nd, by rw [PyData.depth]; exact Nat.succ_le_succ b1.dp, by rw [PyData.leavesShort]; exact b1.lv⟩
    | frl hp rs =>
      simp only at e
      cases e1 : gc (toPy k h) _ with
      | none => rw [e1] at e; cases e
      | some ps =>
        rw [e1] at e
        cases e
        obtain ⟨b1, b2, b3⟩ := iQ (fun d x p => kl r k d x p) rs e1
        exact ⟨.lst hp.sq b2 b3, by rw [PyData.showable]; exact b1.sh, by rw [PyData.hasDict]; exact b1.nd, by rw [PyData.depth]; exact Nat.succ_le_succ b1.dp, by rw [PyData.leavesShort]; exact b1.lv⟩
    | fn _ => cases e
    | edic _ => cases e
    | exc _ _ _ _ _ => cases e
    | scr _ _ => cases e
end
noncomputable def qa (d : D) (h : Hh) : R D := match toPy 12 h d with
  | some p => if p.bulk <= 8000 then .ok (.str p.shown) h else .bad
  | none => .bad
noncomputable def de : List D -> Hh -> R D := fun ds h => match ds with
  | [.int i] => if sml i = true then .ok (.str (toString i)) h else .bad
  | [.tup ds] => qa (.tup ds) h
  | [.ref n] => qa (.ref n) h
  | [.frl ds] => qa (.frl ds) h
  | _ => .bad
section
variable {X : Cx} {K : PySem.W.Frag} {g : GG} {ε : EE}
noncomputable abbrev qr (K : PySem.W.Frag) : List V -> Hp -> VK -> Prop := fun vs H Q => (∃ p d, vs = [.ref p] /\ RdD K H (.ref p) d /\ d.showable = true /\ d.hasDict = false /\ d.depth <= 60 /\ d.shown.length <= sizeLine /\ Q (.str d.shown) H) \/ ∃ i, vs = [.int i] /\ i.natAbs.log2 < 1920 /\ Q (.str (toString i)) H
theorem fc (hg : X.A.guards = some []) (hu : X.A.units + 64 < cLine) : bL X (.builtin "repr") (qr X.K) := bL.or (sM hg hu) p6
theorem eY : nW K g ε de (qr K) := by
  intro α H h a x Q r ra w
  unfold de at w
  cases ra with
  | nil => exact w.elim
  | cons rd rr =>
    cases rr with
    | cons _ _ => cases rd <;> exact w.elim
    | nil =>
      have gen : ∀ {d : D} {v : V}, aE K g α H d v -> (∃ p, v = .ref p) -> WQ K g ε α H (qa d h) (aK K g α H Q) -> qr K [v] H Q := by
        intro d v rd ⟨p, hp⟩ w
        subst hp
        unfold qa at w
        cases e : toPy 12 h d with
        | none => simp only [e] at w; exact w.elim
        | some pd =>
          simp only [e] at w
          obtain ⟨hb, w⟩ := WQ.eU w
          obtain ⟨q1, q2⟩ := kl r 12 d _ pd rd e
          have := PyData.shown_le_bulk 1921 (by decide) pd q2.lv
          exact .inl ⟨p, pd, rfl, q1, q2.sh, q2.nd, Nat.le_trans q2.dp (by decide), by rw [sizeLine_eq]; omega, aK.now w r (.str _)⟩
      cases rd with
      | int i =>
        obtain ⟨hs, w⟩ := WQ.eU w
        exact .inr ⟨i, rfl, Nat.lt_trans (nA hs) (by decide), aK.now w r (.str _)⟩
      | tup hp rs => exact gen (.tup hp rs) ⟨_, rfl⟩ w
      | ref hp => exact gen (.ref hp) ⟨_, rfl⟩ w
      | frl hp rs => exact gen (.frl hp rs) ⟨_, rfl⟩ w
      | _ => exact w.elim
noncomputable def iA : List D -> Hh -> R D := fun ds h => match ds with
  | [.tup ds] => .ok (.int ds.length) h
  | [.frl ds] => .ok (.int ds.length) h
  | [.scr ds] => .ok (.int ds.length) h
  | [.str x] => if x.length <= 1000000 then .ok (.int x.length) h else .bad
  | [.ref n] => match h[n]? with
    | some (.lst ds) => .ok (.int ds.length) h
    | some (.set k) => .ok (.int k.length) h
    | _ => .bad
  | _ => .bad
noncomputable abbrev xj (K : PySem.W.Frag) : List V -> Hp -> VK -> Prop := fun xs H Q => (∃ p ys, xs = [.ref p] /\ (SqL K H p ys \/ SqT K H p ys) /\ Q (.int ys.length) H) \/ (∃ p S n, xs = [.ref p] /\ H p = some (.set S n) /\ Q (.int n) H) \/ ∃ z, xs = [.str z] /\ z.length <= sizeLine /\ Q (.int z.length) H
theorem kB : bL X (.builtin "len") (xj X.K) := bL.or m9 (bL.or lW nh)
theorem nF {α : List Addr} {H : Hp} {h : Hh} {ds : List D} {vs : List V} {f : List D -> Hh -> R D} {Q : VK} (hf : ∀ d e r h, f (d :: e :: r) h = .bad) (hf0 : ∀ h, f [] h = .bad) (rs : aw K g α H ds vs) (w : WQ K g ε α H (f ds h) (aK K g α H Q)) : ∃ d v, ds = [d] /\ vs = [v] /\ aE K g α H d v := by
  cases rs with
  | nil => rw [hf0] at w; exact w.elim
  | cons r t =>
    cases t with
    | nil => exact ⟨_, _, rfl, rfl, r⟩
    | cons _ _ => rw [hf] at w; exact w.elim
theorem lj : nW K g ε iA (xj K) := by
  intro α H h a x Q r ra w
  obtain ⟨d, v, rfl, rfl, rd⟩ := nF (f := iA) (fun d _ _ _ => by cases d <;> rfl) (fun _ => rfl) ra w
  unfold iA at w
  cases rd with
  | tup hp rs => exact .inl ⟨_, _, rfl, .inr (SqT.of hp), aK.now w r (by rw [<- rs.length]; exact .int _)⟩
  | frl hp rs => exact .inl ⟨_, _, rfl, .inl hp.sq, aK.now w r (by rw [<- rs.length]; exact .int _)⟩
  | scr hp rs => exact .inl ⟨_, _, rfl, .inl hp.sq, aK.now w r (by rw [<- rs.length]; exact .int _)⟩
  | str z =>
    obtain ⟨hl, w⟩ := WQ.eU w
    exact .inr (.inr ⟨z, rfl, eW hl, aK.now w r (.int _)⟩)
  | @ref n p hp =>
    simp only at w
    cases e : h[n]? with
    | none => rw [e] at w; exact w.elim
    | some o =>
      rw [e] at w
      have q := r.here n p o hp e
      cases o with
      | lst ds => obtain ⟨vs, hv, rs⟩ := q; exact .inl ⟨p, vs, rfl, .inl (SqL.of hv), aK.now w r (by rw [<- rs.length]; exact .int _)⟩
      | set k => exact .inr (.inl ⟨p, _, _, rfl, q, aK.now w r (.int _)⟩)
      | dic k => exact w.elim
      | dit k => exact w.elim
  | _ => exact w.elim
noncomputable def intsOf : List D -> Option (List Int)
  | [] => some []
  | .int i :: ds => (intsOf ds).map (i :: ·)
  | _ :: _ => none
theorem gx : ∀ {ds : List D} {ns : List Int}, intsOf ds = some ns -> ds = ns.map D.int
  | [], ns, e => by cases e; rfl
  | .int i :: ds, ns, e => by
    unfold intsOf at e
    cases e1 : intsOf ds with
    | none => rw [e1] at e; cases e
    | some ms => rw [e1] at e; cases e; rw [gx e1]; rfl
  | .non :: _, _, e => by cases e
  | .bl _ :: _, _, e => by cases e
  | .str _ :: _, _, e => by cases e
  | .tup _ :: _, _, e => by cases e
  | .frl _ :: _, _, e => by cases e
  | .ref _ :: _, _, e => by cases e
  | .fn _ :: _, _, e => by cases e
  | .edic :: _, _, e => by cases e
  | .exc _ _ :: _, _, e => by cases e
  | .scr _ :: _, _, e => by cases e
theorem iK : ∀ (ns : List Int), intsOf (ns.map D.int) = some ns
  | [] => rfl
  | n :: r => by rw [List.map_cons, intsOf, iK r]; rfl
noncomputable def tT : List D -> Hh -> R D := fun ds h => match ds with
  | [.int i, .int j] => .ok (.int (if j > i then j else i)) h
  | _ => .bad
theorem ui {α : List Addr} {H : Hp} {h : Hh} {ds : List D} {vs : List V} {t : Int -> Int -> Int} {Q : VK} (r : aU K g α H h) (rs : aw K g α H ds vs) (w : WQ K g ε α H (match ds with | [.int i, .int j] => .ok (.int (t i j)) h | _ => .bad) (aK K g α H Q)) : ∃ i j, vs = [.int i, .int j] /\ Q (.int (t i j)) H := by
  split at w
  · cases rs with
    | cons r1 t1 =>
      cases r1
      cases t1 with
      | cons r2 t2 =>
        cases r2
        cases t2
        exact ⟨_, _, rfl, aK.now w r (.int _)⟩
  · exact w.elim
theorem wk : nW K g ε tT (fun xs H Q => ∃ i j, xs = [.int i, .int j] /\ Q (.int (if j > i then j else i)) H) := fun α H h a x Q r ra w => ui (t := fun i j => if j > i then j else i) r ra w
noncomputable def kE : List D -> Hh -> R D := fun ds h => match ds with
  | [.int i] => .ok (.int i) h
  | [.bl b] => .ok (.int (if b then 1 else 0)) h
  | _ => .bad
theorem nv : nW K g ε kE (fun xs H Q => (∃ i, xs = [.int i] /\ Q (.int i) H) \/ ∃ k, xs = [.bl k] /\ Q (.int (if k then 1 else 0)) H) := by
  intro α H h a x Q r ra w
  obtain ⟨d, v, rfl, rfl, rd⟩ := nF (f := kE) (fun d _ _ _ => by cases d <;> rfl) (fun _ => rfl) ra w
  unfold kE at w
  cases rd with
  | int i => exact .inl ⟨i, rfl, aK.now w r (.int _)⟩
  | bl b => exact .inr ⟨b, rfl, aK.now w r (.int _)⟩
  | _ => exact w.elim
noncomputable def tyD (d : D) (h : Hh) : Option String := match d with
  | .non => some "NoneType"
  | .bl _ => some "bool"
  | .int _ => some "int"
  | .str _ => some "str"
  | .tup _ => some "tuple"
  | .frl _ => some "list"
  | .edic => some "dict"
  | .ref n => match h[n]? with
    | some (.lst _) => some "list"
    | some (.dic _) => some "dict"
    | some (.dit _) => some "dict"
    | _ => none
  | _ => none
noncomputable def qC (t n : String) : Option Bool :=
  if n = "int" then (if t = "int" then some true else if t = "bool" then some true else if t = "NoneType" \/ t = "str" \/ t = "tuple" \/ t = "list" \/ t = "dict" then some false else none)
  else if n = "bool" \/ n = "tuple" \/ n = "list" \/ n = "str" then (if t = n then some true else if t = "int" \/ t = "bool" \/ t = "NoneType" \/ t = "str" \/ t = "tuple" \/ t = "list" \/ t = "dict" then some false else none)
  else none
noncomputable def sR (n : String) : D -> Hh -> R D := fun d h => match tyD d h with
  | some t => match qC t n with
    | some b => .ok (.bl b) h
    | none => .bad
  | none => .bad
theorem A3 {α : List Addr} {H : Hp} {h : Hh} {d : D} {v : V} {t : String} (r : aU K g α H h) (rd : aE K g α H d v) (e : tyD d h = some t) : iL K H v (.type t) := by
  unfold tyD at e
  cases rd with
  | non => cases e; exact .non
  | bl b => cases e; exact .bl b
  | int i => cases e; exact .int i
  | str i => cases e; exact .str i
  | tup hp rs => cases e; exact .tup hp
  | frl hp rs => cases e; obtain ⟨o, hp⟩ := hp; exact .frz hp
  | edic hp => cases e; exact .eO hp
  | @ref n p hp =>
    simp only at e
    cases eo : h[n]? with
    | none => rw [eo] at e; cases e
    | some o =>
      rw [eo] at e
      have q := r.here n p o hp eo
      cases o with
      | lst ds => cases e; obtain ⟨vs, hv, _⟩ := q; exact .lst hv
      | set k => cases e
      | dic k => cases e; obtain ⟨vs, hv, _⟩ := q; exact .dK hv
      | dit k => cases e; obtain ⟨vs, hv, _⟩ := q; exact .dT hv
  | _ => cases e
theorem vx (K : PySem.W.Frag) : PySem.W.kitOne K (.type "int") (.type "int") = some true /\ PySem.W.kitOne K (.type "bool") (.type "int") = some true /\ PySem.W.kitOne K (.type "NoneType") (.type "int") = some false /\ PySem.W.kitOne K (.type "str") (.type "int") = some false
    /\ PySem.W.kitOne K (.type "tuple") (.type "int") = some false /\ PySem.W.kitOne K (.type "list") (.type "int") = some false /\ PySem.W.kitOne K (.type "dict") (.type "int") = some false := ⟨rfl, rfl, rfl, rfl, rfl, rfl, rfl⟩
theorem uQ (K : PySem.W.Frag) : PySem.W.kitOne K (.type "int") (.type "bool") = some false /\ PySem.W.kitOne K (.type "bool") (.type "bool") = some true /\ PySem.W.kitOne K (.type "NoneType") (.type "bool") = some false /\ PySem.W.kitOne K (.type "str") (.type "bool") = some false
    /\ PySem.W.kitOne K (.type "tuple") (.type "bool") = some false /\ PySem.W.kitOne K (.type "list") (.type "bool") = some false /\ PySem.W.kitOne K (.type "dict") (.type "bool") = some false := ⟨rfl, rfl, rfl, rfl, rfl, rfl, rfl⟩
theorem kit_tuple (K : PySem.W.Frag) : PySem.W.kitOne K (.type "int") (.type "tuple") = some false /\ PySem.W.kitOne K (.type "bool") (.type "tuple") = some false /\ PySem.W.kitOne K (.type "NoneType") (.type "tuple") = some false /\ PySem.W.kitOne K (.type "str") (.type "tuple") = some false
    /\ PySem.W.kitOne K (.type "tuple") (.type "tuple") = some true /\ PySem.W.kitOne K (.type "list") (.type "tuple") = some false /\ PySem.W.kitOne K (.type "dict") (.type "tuple") = some false := ⟨rfl, rfl, rfl, rfl, rfl, rfl, rfl⟩
theorem tD (K : PySem.W.Frag) : PySem.W.kitOne K (.type "int") (.type "list") = some false /\ PySem.W.kitOne K (.type "bool") (.type "list") = some false /\ PySem.W.kitOne K (.type "NoneType") (.type "list") = some false /\ PySem.W.kitOne K (.type "str") (.type "list") = some false
    /\ PySem.W.kitOne K (.type "tuple") (.type "list") = some false /\ PySem.W.kitOne K (.type "list") (.type "list") = some true /\ PySem.W.kitOne K (.type "dict") (.type "list") = some false := ⟨rfl, rfl, rfl, rfl, rfl, rfl, rfl⟩
theorem wg (K : PySem.W.Frag) : PySem.W.kitOne K (.type "int") (.type "str") = some false /\ PySem.W.kitOne K (.type "bool") (.type "str") = some false /\ PySem.W.kitOne K (.type "NoneType") (.type "str") = some false /\ PySem.W.kitOne K (.type "str") (.type "str") = some true
    /\ PySem.W.kitOne K (.type "tuple") (.type "str") = some false /\ PySem.W.kitOne K (.type "list") (.type "str") = some false /\ PySem.W.kitOne K (.type "dict") (.type "str") = some false := ⟨rfl, rfl, rfl, rfl, rfl, rfl, rfl⟩
theorem zq {t n : String} {b : Bool} (e : qC t n = some b) : PySem.W.kitOne K (.type t) (.type n) = some b := by
  unfold qC at e
  obtain ⟨a1, a2, a3, a4, a5, a6, a7⟩ := vx K
  obtain ⟨b1, b2, b3, b4, b5, b6, b7⟩ := uQ K
  obtain ⟨c1, c2, c3, c4, c5, c6, c7⟩ := kit_tuple K
  obtain ⟨d1, d2, d3, d4, d5, d6, d7⟩ := tD K
  obtain ⟨e1, e2, e3, e4, e5, e6, e7⟩ := wg K
  split at e
  · rename_i hn; subst hn
    split at e
    · rename_i h; subst h; cases e; exact a1
    · split at e
      · rename_i h; subst h; cases e; exact a2
      · split at e
        · rename_i h; cases e; rcases h with rfl | rfl | rfl | rfl | rfl <;> assumption
        · cases e
  · split at e
    · rename_i hn
      split at e
      · rename_i h; subst h; cases e; rcases hn with rfl | rfl | rfl | rfl <;> assumption
      · rename_i hne
        split at e
        · rename_i h; cases e; rcases hn with rfl | rfl | rfl | rfl <;> rcases h with rfl | rfl | rfl | rfl | rfl | rfl | rfl <;> first | assumption | exact absurd rfl hne
        · cases e
    · cases e
theorem tE {e : Expr} {me : ME} {n : String} {x : Str} {p1 p2 pos : Pos} (he : PE X e (tM X.K g ε me)) (hg : Gl X "isinstance") (hm : X.mg "isinstance" = none) (hg2 : Gl X x) (hm2 : X.mg x = none) (hb : bootBuiltins x = some (.type n)) (hn : x ≠ "__name__" := by decide) (hd : (x == ("__debug__" : Str)) = false := by decide)
    (hs1 : starEach [e, .Name x p2] X.env = (false, eval e X.env) :: starEach [.Name x p2] X.env := by rfl) (hs2 : starEach [.Name x p2] X.env = [(false, eval (.Name x p2) X.env)] := by rfl) (hpl : (backTo pos (starEach [.Name x p2] X.env)).any (·.1) = false := by rfl) :
    PE X (.Call (.Name "isinstance" p1) [e, .Name x p2] [] pos) (tM X.K g ε (cUn (sR n) me)) :=
  PE.imp (oy pG hg hm PyProof.Rows.boot_isinstance (kh he (kh (xf (v := .ty n) hg2 hm2 hb rfl hn hd) p_ hs2) hs1) (by decide) (by decide) hs1 hpl) fun σ H Q ⟨α, env, h, s, w⟩ => tM.use s w.bind fun d1 h1 v1 H1 α1 e1 s1 r1 w1 => by
    unfold sR at w1
    cases et : tyD d1 h1 with
    | none => simp only [et] at w1; exact w1.elim
    | some t =>
      simp only [et] at w1
      cases es : qC t n with
      | none => simp only [es] at w1; exact w1.elim
      | some b =>
        simp only [es] at w1
        exact ⟨v1, .type t, n, b, rfl, A3 s1.heap r1 et, zq es, aK.now (aK.ext e1 w1) s1.heap (.bl b)⟩
end
section
variable {X : Cx} {K : PySem.W.Frag} {g : GG} {ε : EE}
noncomputable def oz : D -> Hh -> R Bool := fun d h => match d with
  | .non => .ok false h
  | .bl b => .ok b h
  | .int i => .ok (i != 0) h
  | .tup ds => .ok (!ds.isEmpty) h
  | .frl ds => .ok (!ds.isEmpty) h
  | .ref n => match aD h n with
    | some ds => .ok (!ds.isEmpty) h
    | none => .bad
  | _ => .bad
theorem aw.isEmpty {α : List Addr} {H : Hp} {ds : List D} {vs : List V} (r : aw K g α H ds vs) : ds.isEmpty = vs.isEmpty := by cases r <;> rfl
theorem qf : AX K g ε oz (fun x H Q => ∃ k, vD K x H k /\ Q k H) := by
  intro α H h a x Q r ra w
  unfold oz at w
  have now : ∀ {b : Bool}, jQ K g α H Q b h -> Q b H := fun p => p H α Ext.refl r
  cases ra with
  | non => exact ⟨false, rfl, now w⟩
  | bl b => exact ⟨b, rfl, now w⟩
  | int i => exact ⟨_, rfl, now w⟩
  | tup hp rs => exact ⟨_, .inr (.inl ⟨_, SqT.of hp, rfl⟩), now (by rw [<- rs.isEmpty]; exact w)⟩
  | frl hp rs => exact ⟨_, .inl ⟨_, hp.sq, rfl⟩, now (by rw [<- rs.isEmpty]; exact w)⟩
  | @ref n p hp =>
    simp only at w
    cases e : aD h n with
    | none => rw [e] at w; exact w.elim
    | some ds =>
      rw [e] at w
      obtain ⟨vs, hv, rs⟩ := r.lst e hp
      exact ⟨_, .inl ⟨vs, SqL.of hv, rfl⟩, now (by rw [<- rs.isEmpty]; exact w)⟩
  | _ => exact w.elim
theorem uf {α : List Addr} {H : Hp} {d : D} {v : V} (r : aE K g α H d v) (f : ef d = true) : ij v = true := by
  cases r <;> first | rfl | cases f
theorem Ad {α : List Addr} {H : Hp} {d e : D} {v u : V} (r : aE K g α H d v) (q : aE K g α H e u) (f : ef d = true) (f' : ef e = true) : eqF d e = eqV v u := by
  cases r <;> first | (cases f; done) | (cases q <;> first | rfl | cases f')
theorem xn {α : List Addr} {H : Hp} : ∀ {ds : List D} {vs : List V}, aw K g α H ds vs -> ds.all ef = true -> vs.all ij = true
  | _, _, .nil, _ => rfl
  | _, _, .cons r t, f => by
    rw [List.all_cons, Bool.and_eq_true] at f ⊢
    exact ⟨uf r f.1, xn t f.2⟩
theorem xu {α : List Addr} {H : Hp} {e : D} {u : V} (q : aE K g α H e u) (f' : ef e = true) : ∀ {ds : List D} {vs : List V}, aw K g α H ds vs -> ds.all ef = true -> (ds.any fun d => eqF d e) = vs.any fun y => eqV y u
  | _, _, .nil, _ => rfl
  | _, _, .cons r t, f => by
    rw [List.all_cons, Bool.and_eq_true] at f
    rw [List.any_cons, List.any_cons, Ad r q f.1 f', xu q f' t f.2]
noncomputable def dIn (neg : Bool) : D -> D -> Hh -> R D := fun a b h => match gf b h with
  | some ds => if ef a = true /\ ds.all ef = true then .ok (.bl (if neg then !(ds.any fun d => eqF d a) else ds.any fun d => eqF d a)) h else .bad
  | none => .bad
theorem xq {neg : Bool} : eh K g ε (dIn neg) (rIn K neg) := by
  intro α H h a b x y Q r ra rb w
  unfold dIn at w
  cases e : gf b h with
  | none => rw [e] at w; exact w.elim
  | some ds =>
    rw [e] at w
    obtain ⟨p, vs, rfl, hq, rs⟩ := n8 r rb e
    obtain ⟨⟨f1, f2⟩, w⟩ := WQ.eU w
    refine ⟨p, vs, rfl, hq, uf ra f1, xn rs f2, ?_⟩
    have e2 : (ds.any fun d => eqF d a) = inV x vs := xu ra f1 rs f2
    rw [<- e2]
    exact aK.now w r (.bl _)
noncomputable def rY : List D -> Option (List D)
  | [.int j] => if j.natAbs <= 1000000 then some (aP 0 j.toNat) else none
  | [.int i, .int j] => if (i.natAbs <= 1000000 /\ j.natAbs <= 1000000) /\ (j - i).toNat <= 1000000 then some (aP i (j - i).toNat) else none
  | _ => none
noncomputable def fV (nl : NL) : List D -> Hh -> R D := fun ds h => match rY ds with
  | some xs => nl xs h
  | none => .bad
theorem uC (lo : Int) (n : Nat) {α : List Addr} {H : Hp} : aw K g α H (aP lo n) ((o7 lo 1 n).map V.int) := by
  have e : aP lo n = (o7 lo 1 n).map D.int := by
    unfold aP o7
    rw [List.map_map]
    apply List.map_congr_left
    intro i _
    simp
  rw [e]
  exact aw.ints _
theorem vz {α : List Addr} {H : Hp} {ds : List D} {vs : List V} {xs : List D} (r : aw K g α H ds vs) (e : rY ds = some xs) :
    (∃ j, vs = [.int j] /\ rh 0 j 1 j.toNat /\ xs = aP 0 j.toNat) \/ ∃ i j, vs = [.int i, .int j] /\ rh i j 1 (j - i).toNat /\ xs = aP i (j - i).toNat := by
  unfold rY at e
  split at e
  · rename_i j
    split at e
    · rename_i hj
      cases e
      cases r with
      | cons r1 t =>
        cases r1
        cases t
        refine .inl ⟨j, rfl, ?_, rfl⟩
        have := sY (a := 0) (b := j) (by omega) (by omega) (by omega) (by omega) (by omega)
        rw [Int.sub_zero] at this
        exact this
    · cases e
  · rename_i i j
    split at e
    · rename_i hj
      cases e
      cases r with
      | cons r1 t =>
        cases r1
        cases t with
        | cons r2 t =>
          cases r2
          cases t
          exact .inr ⟨i, j, rfl, sY (by omega) (by omega) (by omega) (by omega) (by omega), rfl⟩
    · cases e
  · cases e
theorem xT : bL X (.type "range") (fun vs H Q => (∃ j, vs = [.int j] /\ ∀ p, H p = none -> Q (.ref p) (upd H p (m4 p 0 j 1))) \/ ∃ i j, vs = [.int i, .int j] /\ ∀ p, H p = none -> Q (.ref p) (upd H p (m4 p i j 1))) := bL.or rO rU
section
variable {e : Expr} {es : List Expr} {mr : MA} {p1 p2 q1 q2 : Pos}
theorem o9 {nl : NL} [iW nl] (hc : X.calm = true) (hg : Gl X "list") (hm : X.mg "list" = none) (hg2 : Gl X "range") (hm2 : X.mg "range" = none) (ha : PA X (e :: es) (tMA X.K g ε mr))
    (he : starEach (e :: es) X.env = (false, eval e X.env) :: starEach es X.env := by rfl) (hpl : (backTo q2 (starEach es X.env)).any (·.1) = false := by rfl)
    (he1 : starEach [.Call (.Name "range" p2) (e :: es) [] q2] X.env = [(false, eval (.Call (.Name "range" p2) (e :: es) [] q2) X.env)] := by rfl) (hpl1 : (backTo q1 (starEach [] X.env)).any (·.1) = false := by rfl) :
    PE X (.Call (.Name "list" p1) [.Call (.Name "range" p2) (e :: es) [] q2] [] q1) (tM X.K g ε (ah (fV nl) mr)) :=
  PE.imp (PE.frz (js (lR hc) hg hm PyProof.Rows.boot_list (kh (js xT hg2 hm2 PyProof.Rows.boot_range ha (by decide) (by decide) he hpl) p_ he1) (by decide) (by decide) he1 hpl1)) fun σ H Q ⟨α, env, h, s, w⟩ => tMA.use s w.bind fun d1 h1 v1 H1 α1 e1 s1 r1 w1 => by
    unfold fV at w1
    cases er : rY d1 with
    | none => rw [er] at w1; exact w1.elim
    | some xs =>
      rw [er] at w1
      rcases vz r1 er with ⟨j, rfl, ok, rfl⟩ | ⟨i, j, rfl, ok, rfl⟩
      · refine .inl ⟨j, rfl, fun p hp => ⟨p, 0, j, 1, j.toNat, rfl, bg, ok, fun l hl => ?_⟩⟩
        have x := Ext.fresh (K := X.K) (α := α1) (o := m4 p 0 j 1) hp
        exact NL.post ((w1.post e1).post x) (s1.heap.grow hp) (uC 0 j.toNat) hl
      · refine .inr ⟨i, j, rfl, fun p hp => ⟨p, i, j, 1, (j - i).toNat, rfl, bg, ok, fun l hl => ?_⟩⟩
        have x := Ext.fresh (K := X.K) (α := α1) (o := m4 p i j 1) hp
        exact NL.post ((w1.post e1).post x) (s1.heap.grow hp) (uC i (j - i).toNat) hl
end
noncomputable def isL (d : D) (h : Hh) : Bool := match d with
  | .ref n => (aD h n).isSome
  | .frl _ => true
  | _ => false
noncomputable def jz (f : D -> List D -> Hh -> R D) (o : ME) (a : MA) : ME := fun env h => (o env h).bind fun x h1 => if isL x h1 = true then (a env h1).bind fun xs h2 => f x xs h2 else .bad
theorem vE {α : List Addr} {H : Hp} {h : Hh} {d : D} {x : V} (r : aU K g α H h) (rd : aE K g α H d x) (e : isL d h = true) : tyV K "list" x H := by
  unfold isL at e
  cases rd with
  | @ref n p hp =>
    simp only at e
    obtain ⟨ds, e⟩ := Option.isSome_iff_exists.mp e
    obtain ⟨vs, hv, _⟩ := r.lst e hp
    exact .inl ⟨rfl, vs, SqL.of hv⟩
  | frl hq rs => exact .inl ⟨rfl, _, hq.sq⟩
  | _ => cases e
theorem uI {o e : Expr} {es : List Expr} {mo : ME} {mr : MA} {name : Str} {apos cpos : Pos} {id : String} {r : V -> List V -> Hp -> VK -> Prop} {f : D -> List D -> Hh -> R D} (slot : Slot "list" name id) (hty : typeOf (.builtin id) = pure (.type "method_descriptor")) (hm : MtM X id r) (im : yM X.K g ε f r) (ho : PE X o (tM X.K g ε mo)) (ha : PA X (e :: es) (tMA X.K g ε mr))
    (hbase : attributeBase o name X.env (eval o X.env) = eval o X.env := by rfl)
    (hfew : ((backTo cpos (starEach (e :: es) X.env)).all (fun x => !x.1) && (backToKw cpos (keywordEach [] X.env)).all (fun x => x.1.isSome)
      && decide ((e :: es).length + ([] : List Keyword).length + (if ([] : List Keyword).isEmpty then 0 else 1) < 30)) = true := by rfl)
    (hline : (apos.endLine == cpos.line) = true := by rfl) (hs : starEach (e :: es) X.env = (false, eval e X.env) :: starEach es X.env := by rfl) (hplain : (backTo cpos (starEach es X.env)).any (·.1) = false := by rfl) :
    PE X (.Call (.Attribute o name apos) (e :: es) [] cpos) (tM X.K g ε (jz f mo mr)) :=
  PE.imp (AK PySem.F.plainAttrs_list slot hty hm ho ha hbase hfew hline hs hplain) fun σ H Q ⟨α, env, h, s, w⟩ => tM.use s w.bind fun d1 h1 v1 H1 α1 e1 s1 r1 w1 => by
    obtain ⟨hl, w1⟩ := WQ.eU w1
    refine ⟨vE s1.heap r1 hl, tMA.use s1 (w1.ext e1).bind fun d2 h2 v2 H2 α2 e2 s2 r2 w2 => ?_⟩
    exact im α2 H2 h2 d1 d2 v1 v2 Q s2.heap (r1.ext e2) r2 ((w2.ext e2).mono fun _ _ _ p => aK.ext (e1.trans e2) p)
noncomputable def o1 : V -> List V -> Hp -> VK -> Prop := fun x vs H Q => ∃ l b xs zs, x = .ref l /\ vs = [.ref b] /\ H l = some (.lst xs) /\ Rd H b (.lst zs) /\ xs.length + zs.length <= sizeLine /\ Q .non (upd H l (.lst (xs ++ zs)))
theorem p8 : MtM X "list.extend" o1 := by
  intro pins s σ H x vs v us Q I rx rv h
  obtain ⟨l, b, xs, zs, rfl, rfl, hH, hB, hz, q⟩ := h
  cases rx
  obtain ⟨u, rfl, ru⟩ := rv.one
  cases ru
  obtain ⟨z, its, n, r, hl, e⟩ := I.zG hH
  obtain ⟨its2, n2, z2, r2, hl2, e2⟩ := vM I hB
  have hsz : its.toArray.size + its2.toArray.size <= sizeLine := by rw [List.size_toArray, List.size_toArray]; omega
  have hlong : ¬ (!its.toArray.isEmpty && Builtin.List.listTooLong (its.toArray.size + its2.toArray.size)) = true := by
    rw [oB hsz, Bool.and_false]
    exact Bool.false_ne_true
  refine call_meets F.slot_list_extend ⟨_, e, rfl⟩ F.entry_list_extend (F.args_list_extend_2 _ _)
    (AutoSeq1.list_extend_list_list_0 l its.toArray n b its2.toArray n2 hlong (by rw [List.size_toArray]; omega) (by omega)) ⟨e, e2, ?_⟩
  refine ⟨.non, _, I.xW (its' := its ++ its2) hH e (by simp) (r.append r2) ?_, rfl, q⟩
  rw [List.length_append]
  omega
noncomputable def e_ : D -> List D -> Hh -> R D := fun o ds h => match o, ds with
  | .ref n, [d] => match aD h n, jj d h with
    | some xs, some ys => if xs.length + ys.length <= 1000000 then .ok .non (h.set n (.lst (xs ++ ys))) else .bad
    | _, _ => .bad
  | _, _ => .bad
theorem r8 : yM K g ε e_ o1 := by
  intro α H h o a y x Q r ro ra w
  unfold e_ at w
  cases ro with
  | @ref n p hp =>
    cases ra with
    | nil => exact w.elim
    | cons rd rr =>
      cases rr with
      | cons _ _ => exact w.elim
      | nil =>
        simp only at w
        cases e : aD h n with
        | none => rw [e] at w; exact w.elim
        | some xs =>
          rw [e] at w
          cases e2 : jj _ h with
          | none => rw [e2] at w; exact w.elim
          | some ys =>
            rw [e2] at w
            obtain ⟨hl, w⟩ := WQ.eU w
            obtain ⟨vs, hv, rs⟩ := r.lst e hp
            obtain ⟨q, us, rfl, hu, rt⟩ := n4 r rd e2
            refine ⟨p, q, vs, us, rfl, rfl, hv, hu, eW (by rw [<- rs.length, <- rt.length]; exact hl), ?_⟩
            have x := Ext.write (o := .lst (vs ++ us)) r hp
            exact (show aK K g α H Q _ _ from w) _ _ α x (r.write hp ⟨_, bg, (rs.append rt).ext x⟩) .non
  | _ => exact w.elim
theorem jP (ns : List Int) : ∀ k, k <= ns.length -> preSum (fun i => ns.getD i 0) k = (ns.take k).sum
  | 0, _ => by simp [preSum]
  | k + 1, h => by
    rw [preSum, jP ns k (by omega), List.take_succ, List.sum_append]
    rw [List.getD_eq_getElem?_getD, List.getElem?_eq_getElem (by omega)]
    simp
theorem sQ (hc : X.calm = true) : bL X (.builtin "sum") (fun vs H Q => ∃ (p : Addr) (ns : List Int), vs = [.ref p] /\ (SqL X.K H p (ns.map V.int) \/ SqT X.K H p (ns.map V.int)) /\ Q (.int ns.sum) H) := by
  intro pins s σ H xs us Q I r h
  obtain ⟨p, ns, rfl, hq, q⟩ := h
  obtain ⟨u, rfl, rx⟩ := vals1 r
  cases rx
  have hh : X.A.in1.handled = none := I.ok.hd hc
  have fin : ∀ {its : List Value} {o : Obj}, Vals (ns.map V.int) its -> ∀ s', Moved [s.heap.objs.size] (fun a b => b = a) { s with heap := s.heap.push o } s' -> ∀ t', EP X pins σ Q (.int (preSum (fun i => ns.getD i 0) its.toArray.size) t') s' := fun {its o} rv s' mv t' => by
    have hl : its.toArray.size = ns.length := by rw [List.size_toArray, <- rv.length, List.length_map]
    have keep : ∀ b u, s.heap.get? b = some u -> s'.heap.get? b = some u := fun b u e => mv.heap b u (by simp; exact Nat.ne_of_lt (Heap.lt_size e)) (Heap.get?_push_of_some _ e)
    have I' : Inv X pins σ H s' := by
      obtain ⟨hp, gs, dr, tk, os⟩ := s'
      have e1 : gs = s.gens := mv.gens
      have e2 : dr = s.drawn := mv.drawn
      have e3 : os = s.os := mv.os
      subst e1 e2 e3
      exact I.kept (h' := hp) (t' := tk) keep
    refine ⟨.int ns.sum, H, I', ⟨t', ?_⟩, q⟩
    rw [hl, jP ns _ (Nat.le_refl _), List.take_length]
  have val : ∀ {its : List Value}, Vals (ns.map V.int) its -> ∀ i v, its.toArray[i]? = some v -> ∃ t : Tok, v = Value.int (ns.getD i 0) t := fun {its} rv i v e => by
    obtain ⟨x, hx, rxv⟩ := rv.get' (show its[i]? = some v by simpa using e)
    rw [List.getElem?_map] at hx
    cases en : ns[i]? with
    | none => rw [en] at hx; cases hx
    | some z =>
      rw [en] at hx
      cases hx
      obtain ⟨t, e⟩ := rxv
      exact ⟨t, by rw [List.getD_eq_getElem?_getD, en]; exact e⟩
  rcases hq with hq | hq
  · obtain ⟨its, rv, pl, hz⟩ := I.list hq
    have plt : p < s.heap.objs.size := by obtain ⟨o, e, _⟩ := pl.isList; exact Heap.lt_size e
    have hne : p ≠ s.heap.objs.size := Nat.ne_of_lt plt
    refine call_sum_walkAnyS (wpAny_pyIter_list pl.isList ?_)
    refine ⟨s.heap.objs.size, _, _, _, its.toArray.size, _, _, fun i => ns.getD i 0, rfl, (Walks.list (prog := X.prog) (w := X.w) hh s.heap.objs.size p hne its.toArray).toS, ⟨⟨_, Heap.get?_push_size _ rfl, rfl, rfl⟩, ?_⟩, fun b hb => ?_, val rv, fun s' t' mv => fin rv s' mv t'⟩
    · exact pl.isList.at fun o e => Heap.get?_push_of_some _ e
    · simp at hb
      rcases hb with rfl | rfl
      · exact Heap.lt_size (Heap.get?_push_size _ rfl)
      · exact Nat.lt_trans plt (Heap.lt_size (Heap.get?_push_size _ rfl))
  · obtain ⟨its, rv, pl, hz⟩ := I.tuple hq
    have pt : s.heap.IsTuple p its.toArray := pl
    have hne : p ≠ s.heap.objs.size := Nat.ne_of_lt pl.lt
    refine call_sum_walkAnyS (wpAny_pyIter_tuple pt ?_)
    refine ⟨s.heap.objs.size, _, _, _, its.toArray.size, _, _, fun i => ns.getD i 0, rfl, (Walks.tuple (prog := X.prog) (w := X.w) hh s.heap.objs.size p hne its.toArray).toS, ⟨⟨_, Heap.get?_push_size _ rfl, rfl, rfl⟩, ?_⟩, fun b hb => ?_, val rv, fun s' t' mv => fin rv s' mv t'⟩
    · exact pt.at fun o e => Heap.get?_push_of_some _ e
    · simp at hb
      rcases hb with rfl | rfl
      · exact Heap.lt_size (Heap.get?_push_size _ rfl)
      · exact Nat.lt_trans pl.lt (Heap.lt_size (Heap.get?_push_size _ rfl))
noncomputable def sH : List D -> Hh -> R D := fun ds h => match ds with
  | [d] => match gf d h with
    | some xs => match intsOf xs with
      | some ns => .ok (.int ns.sum) h
      | none => .bad
    | none => .bad
  | _ => .bad
theorem yI : nW K g ε sH (fun vs H Q => ∃ (p : Addr) (ns : List Int), vs = [.ref p] /\ (SqL K H p (ns.map V.int) \/ SqT K H p (ns.map V.int)) /\ Q (.int ns.sum) H) := by
  intro α H h a x Q r ra w
  obtain ⟨d, v, rfl, rfl, rd⟩ := nF (f := sH) (fun _ _ _ _ => rfl) (fun _ => rfl) ra w
  unfold sH at w
  simp only at w
  cases e : gf d h with
  | none => rw [e] at w; exact w.elim
  | some ds =>
    rw [e] at w
    simp only at w
    cases e2 : intsOf ds with
    | none => rw [e2] at w; exact w.elim
    | some ns =>
      rw [e2] at w
      obtain ⟨p, vs, rfl, hq, rs⟩ := n8 r rd e
      have e3 := gx e2
      subst e3
      have e4 := rs.uo
      subst e4
      exact ⟨p, ns, rfl, hq, aK.now w r (.int _)⟩
end
section
variable {P : Program} {w : World} {K : PySem.W.Frag} {mg : Str -> Option Value} {base : Heap} {g : GG}
noncomputable def aX (K : PySem.W.Frag) (mg : Str -> Option Value) (x : Str) (st : Stmt) : Prop := ∃ f fd, mg x = some (.ref f) /\ Fun K x x st f fd
noncomputable def cA (K : PySem.W.Frag) (x : Str) (st : Stmt) : Prop := ∃ f fd, PySem.W.nsIn K mainGlobals x = some (some (.ref f)) /\ Fun K x x st f fd
theorem bT {x : Str} {st : Stmt} {f : Addr} {oc : Value} {od an : Option Addr} {osl : Array (Option Value)} {kV doc pm cdv ct : Value} (a : PySem.W.nsIn K mainGlobals x = some (some (.ref f)))
    (l : K.lookup f = some ⟨oc, od, .func (PySem.W.fnOf x x (jg st) (fP st) (ay st) .none kV doc pm an cdv ct), osl⟩) (c : PySem.W.codeIn K cdv x = true) (k : PySem.W.keepIn K (.ref f) = true) : cA K x st := ⟨f, _, a, yQ l c k⟩
theorem aX.of {h : Heap} {x : Str} {st : Stmt} (X : K.In h) (G : h.Ns mainGlobals mg) (d : cA K x st) : aX K mg x st :=
  let ⟨f, fd, a, F⟩ := d; ⟨f, fd, PySem.W.mg_of X G a, F⟩
noncomputable def Has (P : Program) (w : World) (K : PySem.W.Frag) (mg : Str -> Option Value) (base : Heap) (g : GG) (x : Str) (k : Nat) (ps : List Str) (m : MF) : Prop :=
  ∃ f fd, eC P w K mg base CX0 k f fd ps (spM K g ps.length m) /\ PySem.W.keepIn K (.ref f) = true /\ Binds K fd ps [] /\ mg x = some (.ref f) /\ ∃ (oc : Value) (od : Option Addr) (osl : Array (Option Value)), K.lookup f = some ⟨oc, od, .func fd, osl⟩
noncomputable def gOf (mg : Str -> Option Value) : GG := fun x => match mg x with
  | some (.ref f) => some f
  | _ => none
theorem br {x : Str} {st : Stmt} {f : Addr} {fd : FuncData} (F : Fun K x x st f fd) : ∃ (oc : Value) (od : Option Addr) (osl : Array (Option Value)), K.lookup f = some ⟨oc, od, .func fd, osl⟩ := by
  obtain ⟨oc, od, kV, doc, pm, an, cdv, ct, osl, rfl, lk, hcd⟩ := F.ex
  exact ⟨oc, od, osl, lk⟩
theorem yf {x : Str} {st : Stmt} {f : Addr} {fd : FuncData} {k : Nat} {ps : List Str} {m : MF} (F : Fun K x x st f fd) (hm : mg x = some (.ref f)) (h : Has P w K mg base g x k ps m) : eC P w K mg base CX0 k f fd ps (spM K g ps.length m) := by
  obtain ⟨f2, fd2, G, _, _, hm2, oc, od, osl, l2⟩ := h
  obtain ⟨oc', od', osl', l1⟩ := br F
  rw [hm] at hm2
  cases hm2
  rw [l1] at l2
  cases l2
  exact G
end
section
variable {X : Cx} {g : GG} {ε : EE}
theorem m7 {i j : Nat} {x y : Str} {a b : Expr} {ma : MA} {px py pt pos : Pos} {kt k2 pt2} (hc : X.calm = true) (hN : X.N.Nodup) (hi : X.N[i]? = some x) (hj : X.N[j]? = some y) (hij : i ≠ j) (ha : PA X [a, b] (tMA X.K g ε ma))
    (hx : X.env.scope.names.lookup x = some .local := by rfl) (hy : X.env.scope.names.lookup y = some .local := by rfl)
    (hw : swappedStores [.Tuple [.Name x px, .Name y py] kt pt] (.Tuple [a, b] k2 pt2) X.env = pure (some [x, y]) := by rfl)
    (hs : swapsWithSole [.Tuple [.Name x px, .Name y py] kt pt] (.Tuple [a, b] k2 pt2) pos.line X.env = pure false := by rfl) :
    PS X (.Assign [.Tuple [.Name x px, .Name y py] kt pt] (.Tuple [a, b] k2 pt2) pos) (tMS X.K g ε (lJ i j ma)) := zU hc hN hi hj hij hx hy ha hw hs
end
theorem yb {k : Nat} {m : MF} {l : PySem.W.OpenLaw} {q : Program} {loose : List Str} {XP : (Str -> Option Value) -> Heap -> Prop} {YP : World -> Heap -> Prop} {d : DefRec} {K : Params -> PySem.W.Frag} (hn : l.most = some 63) (hdf : d.params.defaults = []) (hr : fG k callerA)
    (hY : ∀ (w : World) (h : Heap), YP w h -> (K w.params).In h)
    (ok : ∀ ns : List Int, ns.length <= 63 -> ∃ h, m [.scr (ns.map D.int)] [] = .ok (.bl true) h)
    (F : ∀ (w : World) (mg : Str -> Option Value) (fa : Addr) (h : Heap), (K w.params).In h -> h.Ns mainGlobals mg -> mg d.name = some (.ref fa) →
      ∃ fd : FuncData, (∀ (s : Shared) (u : Value), BindsTo s fd ⟨[u], []⟩ [("_law_script", u)]) /\ ∀ base : Heap, (K w.params).In base -> base.Ns mainGlobals mg -> eC l.prog w (K w.params) mg base CX0 k fa fd ["_law_script"] (spM (K w.params) (gOf mg) 1 m)) :
    PySem.W.WalkO q loose XP YP l.row.toRowW d [] (fun f vs => PySem.call f vs) := by
  refine L2.wa (n := 63) (k := k) (x := "_law_script") (CX := fun _ => CX0) (sp := fun w => fun vs H Q _ => ∃ a ns, vs = [V.ref a] /\ ns.length <= 63 /\ wJ H /\ SqL (K w.params) H a (ns.map V.int) /\ ∀ v H', v = V.bl true -> Q v H') hn (by decide) hdf hr hY (fun w mg fa h KX G hmg => ?_) (fun w H a ns hl hO hS => ⟨a, ns, rfl, hl, hO, hS, fun _ _ z => z⟩) fun _ _ _ _ _ z => z
  obtain ⟨fd, hb, hF⟩ := F w mg fa h KX G hmg
  refine ⟨fd, hb, fun base kb nb => (hF base kb nb).imp fun vs H Q E z => ?_⟩
  obtain ⟨a, ns, rfl, hl, hO, hS, hQ⟩ := z
  obtain ⟨hh, e⟩ := ok ns hl
  refine ⟨rfl, [], [.scr (ns.map D.int)], [], .cons (.scr ?_ (aw.ints ns)) .nil, ⟨rfl, fun n m p z => by simp at z, fun n p o z => by simp at z⟩, ?_⟩
  · rcases hS with (hS | ⟨o, hS⟩) | hS
    · rcases hO a with z | ⟨o, xs, z⟩
      · rw [hS] at z; cases z
      · rw [hS] at z; cases z
    · exact .inl ⟨o, hS⟩
    · exact .inr hS
  · rw [e]
    intro v H' α' _ _ rd
    cases rd
    exact hQ _ _ rfl
mutual
noncomputable def dO (k : Nat) : D -> Bool
  | .ref n => decide (n < k)
  | .tup ds => bS k ds
  | .frl ds => bS k ds
  | .scr ds => bS k ds
  | _ => true
noncomputable def bS (k : Nat) : List D -> Bool
  | [] => true
  | d :: ds => dO k d && bS k ds
end
noncomputable def oO (k : Nat) : O -> Bool
  | .lst ds => bS k ds
  | .set _ => true
  | .dic kvs => bS k (kvs.map (·.2))
  | .dit kvs => bS k (kvs.map (·.2))
noncomputable def jB (f : D -> Option D) : List D -> Option (List D)
  | [] => some []
  | d :: ds => match f d, jB f ds with
    | some e, some es => some (e :: es)
    | _, _ => none
noncomputable def eO (k : Nat) (h : Hh) : Nat -> D -> Option D
  | 0, _ => none
  | f + 1, d => match d with
    | .ref n => if n < k then some (.ref n) else match aD h n with
      | some ds => (jB (eO k h f) ds).map .frl
      | none => none
    | .tup ds => (jB (eO k h f) ds).map .tup
    | .frl ds => (jB (eO k h f) ds).map .frl
    | .scr _ => none
    | d => some d
noncomputable def cu (h : Hh) : D -> Hh -> R D := fun d h' => if (h'.take h.length).all (oO h.length) = true then match eO h.length h' 8 d with
  | some e => .ok e (h'.take h.length)
  | none => .bad else .bad
open Classical in
noncomputable def i7 (S : Addr -> Prop) (o : Addr -> Obj) (H : Hp) : Hp := fun p => if S p then (H p).map (.frz (o p)) else H p
theorem y_ {P : Program} {w : World} {H : Hp} {h : Heap} {p : Addr} {u : HO} (q : bO P w H h p u) (mu : Mut (some u)) : ∃ o, h.get? p = some o := by
  cases u with
  | lst xs => obtain ⟨_, _, _, _, e'⟩ := q; exact ⟨_, e'⟩
  | dK kvs => obtain ⟨_, _, _, _, o, _, _, e', _⟩ := q; exact ⟨_, e'⟩
  | dT kvs => obtain ⟨_, _, _, _, o, _, _, e', _⟩ := q; exact ⟨_, e'⟩
  | set S n => obtain ⟨o, _, _, _, e', _⟩ := q; exact ⟨_, e'⟩
  | ins C dx fs => obtain ⟨_, _, _, e', _⟩ := q; exact ⟨_, e'⟩
  | ext φ => obtain ⟨_, ⟨_, e'⟩, _⟩ := q; exact ⟨_, e'⟩
  | _ => exact absurd mu (fun z => z)
theorem zA {outer : List Env} {P : Program} {w : World} {H : Hp} {s : Shared} {Q Q' : VK} {u : Value} {s' : Shared} (h : CE outer P w H s Q' u s')
    (hQ : ∀ v H', Q' v H' -> ∃ S : Addr -> Prop, (∀ p, S p -> ∃ u, H' p = some u /\ Mut (some u)) /\ ∀ o : Addr -> Obj, Q v (i7 S o H')) : CE outer P w H s Q u s' := by
  obtain ⟨v, H', os, bare, un, hok, r, q⟩ := h
  obtain ⟨S, hS, q⟩ := hQ v H' q
  have hS1 : ∀ p, S p -> ∀ u, H' p = some u -> Mut (some u) := fun p z u e => by obtain ⟨u', e', m⟩ := hS p z; rw [e] at e'; cases e'; exact m
  have off : ∀ (o : Addr -> Obj) b u, H' b = some u -> ¬ Mut (some u) -> i7 S o H' b = some u := fun o b u e m => by
    unfold i7
    rw [if_neg fun z => m (hS1 b z u e)]; exact e
  have offn : ∀ (o : Addr -> Obj) b, H' b = none -> i7 S o H' b = none := fun o b e => by
    unfold i7
    split
    · rw [e]; rfl
    · exact e
  let o : Addr -> Obj := fun b => (s'.heap.get? b).getD { cls := .none, data := .fields #[] }
  refine ⟨v, i7 S o H', os, bare, ⟨un.keep, un.slot, fun b ob e n hx => offn o b (un.free b ob e n hx), un.there, fun b xs e => off o b _ (un.ly b xs e) fun z => z, fun b ob xs e => off o b _ (un.la b ob xs e) fun z => z, fun b ps e => ?_⟩, ?_, r, q o⟩
  · obtain ⟨more, e1⟩ := un.lD b ps e
    exact ⟨more, off o b _ e1 fun z => z⟩
  · intro b u e
    have st : ∀ u, bO P w H' s'.heap b u -> bO P w (i7 S o H') s'.heap b u := fun u x => x.n9 (fun _ _ _ z => z) (fun c z => off o c _ z fun z => z) fun c xs z => off o c _ z fun z => z
    unfold i7 at e
    split at e
    · rename_i hb
      obtain ⟨u', e', m⟩ := hS b hb
      rw [e'] at e
      cases e
      have x := hok b u' e'
      obtain ⟨ob, eo⟩ := y_ x m
      refine ⟨?_, st _ x⟩
      show s'.heap.get? b = some ((s'.heap.get? b).getD _)
      rw [eo]; rfl
    · exact st u (hok b u e)
section
variable {K : PySem.W.Frag} {g : GG} {α α' : List Addr} {H H' H2 : Hp} {k : Nat}
structure o8 (K : PySem.W.Frag) (α α' : List Addr) (H' H2 : Hp) (k : Nat) : Prop where
  pre : ∀ n, n < k -> α[n]? = α'[n]?
  tup : ∀ p xs, H' p = some (.tup xs) -> H2 p = some (.tup xs)
  frz : ∀ p (o : Obj) (u : HO), H' p = some (.frz o u) -> H2 p = some (.frz o u)
mutual
theorem km (L : o8 K α α' H' H2 k) : ∀ {d : D} {v : V}, dO k d = true -> aE K g α' H' d v -> aE K g α H2 d v
  | _, _, _, .non => .non
  | _, _, _, .bl b => .bl b
  | _, _, _, .int i => .int i
  | _, _, _, .str x => .str x
  | _, _, hl, .ref h => .ref (by rw [L.pre _ (by simpa [dO] using hl)]; exact h)
  | _, _, hl, .tup h r => .tup (L.tup _ _ h) (fN L (by simpa [dO] using hl) r)
  | _, _, hl, .frl h r => .frl (let ⟨o, h⟩ := h; ⟨o, L.frz _ _ _ h⟩) (fN L (by simpa [dO] using hl) r)
  | _, _, hl, .scr h r => .scr (h.elim (fun ⟨o, h⟩ => .inl ⟨o, L.frz _ _ _ h⟩) .inr) (fN L (by simpa [dO] using hl) r)
  | _, _, _, .fn h => .fn h
  | _, _, _, .edic h => .edic (L.frz _ _ _ h)
  | _, _, _, .exc hg h hc hd hf => .exc hg (L.frz _ _ _ h) hc hd (hf.elim .inl fun ⟨dx, od, a, b⟩ => .inr ⟨dx, od, a, L.frz _ _ _ b⟩)
theorem fN (L : o8 K α α' H' H2 k) : ∀ {ds : List D} {vs : List V}, bS k ds = true -> aw K g α' H' ds vs -> aw K g α H2 ds vs
  | _, _, _, .nil => .nil
  | _, _, hl, .cons r t => by
    simp only [bS, Bool.and_eq_true] at hl
    exact .cons (km L hl.1 r) (fN L hl.2 t)
end
theorem i8 {f : D -> Option D} (hf : ∀ d e v, f d = some e -> aE K g α' H' d v -> aE K g α H2 e v) : ∀ {ds es : List D} {vs : List V}, jB f ds = some es -> aw K g α' H' ds vs -> aw K g α H2 es vs
  | [], es, _, e, .nil => by cases e; exact .nil
  | d :: ds, es, _, e, .cons r t => by
    unfold jB at e
    split at e
    · rename_i e1 es1 h1 h2
      cases e
      exact .cons (hf _ _ _ h1 r) (i8 hf h2 t)
    · cases e
theorem kq {h' hx : Hh} (L : o8 K α α' H' H2 k) (r : aU K g α' H' h') (hx' : ∀ n ds, aD hx n = some ds -> aD h' n = some ds) (fz : ∀ n p ds vs, k <= n -> aD hx n = some ds -> α'[n]? = some p -> H' p = some (.lst vs) -> Fr1 H2 p vs) :
    ∀ (f : Nat) (d e : D) (v : V), eO k hx f d = some e -> aE K g α' H' d v -> aE K g α H2 e v
  | 0, _, _, _, e, _ => by cases e
  | f + 1, d, e, v, he, rd => by
    unfold eO at he
    cases rd with
    | non => cases he; exact .non
    | bl b => cases he; exact .bl b
    | int i => cases he; exact .int i
    | str x => cases he; exact .str x
    | fn h => cases he; exact .fn h
    | edic h => cases he; exact .edic (L.frz _ _ _ h)
    | exc hg h hc hd hf => cases he; exact .exc hg (L.frz _ _ _ h) hc hd (hf.elim .inl fun ⟨dx, od, a, b⟩ => .inr ⟨dx, od, a, L.frz _ _ _ b⟩)
    | scr _ _ => cases he
    | tup h rs =>
      simp only at he
      cases e1 : jB (eO k hx f) _ with
      | none => rw [e1] at he; cases he
      | some es => rw [e1] at he; cases he; exact .tup (L.tup _ _ h) (i8 (fun d e v => kq L r hx' fz f d e v) e1 rs)
    | frl h rs =>
      simp only at he
      cases e1 : jB (eO k hx f) _ with
      | none => rw [e1] at he; cases he
      | some es => rw [e1] at he; cases he; exact .frl (let ⟨o, h⟩ := h; ⟨o, L.frz _ _ _ h⟩) (i8 (fun d e v => kq L r hx' fz f d e v) e1 rs)
    | @ref n p hp =>
      simp only at he
      split at he
      · rename_i hn
        cases he
        exact .ref (by rw [L.pre n hn]; exact hp)
      · rename_i hn
        cases el : aD hx n with
        | none => rw [el] at he; cases he
        | some ds =>
          rw [el] at he
          simp only at he
          cases e1 : jB (eO k hx f) ds with
          | none => rw [e1] at he; cases he
          | some es =>
            rw [e1] at he; cases he
            obtain ⟨vs, hv, rs⟩ := r.lst (hx' n ds el) hp
            exact .frl (fz n p ds vs (by omega) el hp hv) (i8 (fun d e v => kq L r hx' fz f d e v) e1 rs)
end
theorem pH {β : Type} {l : List β} {k n : Nat} {x : β} (e : (l.take k)[n]? = some x) : n < k /\ l[n]? = some x := by
  rw [List.getElem?_take] at e
  split at e
  · exact ⟨by assumption, e⟩
  · cases e
theorem qZ {α α' : List Addr} (h : α <+: α') {n : Nat} (hn : n < α.length) : α[n]? = α'[n]? := by
  obtain ⟨t, rfl⟩ := h
  rw [List.getElem?_append_left hn]
theorem vJ {β : Type} {l : List β} {f : β -> Bool} (h : l.all f = true) {n : Nat} {x : β} (e : l[n]? = some x) : f x = true := List.all_eq_true.mp h x (List.mem_of_getElem? e)
theorem uS {K : PySem.W.Frag} {g : GG} {α α' α2 : List Addr} {H H' H2 : Hp} {h h' : Hh} (r0 : α.length = h.length) (e : Ext K α H α' H') (r : aU K g α' H' h') (hl : (h'.take h.length).all (oO h.length) = true)
    (L : o8 K α2 α' H' H2 h.length) (kp : ∀ n p u, n < h.length -> α'[n]? = some p -> H' p = some u -> H2 p = some u) : ∀ (n : Nat) (p : Addr) (o : O), n < h.length -> α'[n]? = some p -> (h'.take h.length)[n]? = some o -> OAt K g α2 H2 p o := by
  intro n p o hn hp ho
  have lo := vJ hl ho
  obtain ⟨_, ho'⟩ := pH ho
  have q := r.here n p o hp ho'
  cases o with
  | lst ds => obtain ⟨vs, a, b⟩ := q; exact ⟨vs, kp n p _ hn hp a, fN L lo b⟩
  | set m => exact kp n p _ hn hp q
  | dic kvs =>
    obtain ⟨kws, a, b⟩ := q
    refine ⟨kws, kp n p _ hn hp a, ?_⟩
    replace lo : bS h.length (kvs.map (·.2)) = true := lo
    clear a ho ho'
    induction b with
    | nil => exact .nil
    | cons x t ih =>
      simp only [List.map_cons, bS, Bool.and_eq_true] at lo
      exact .cons ⟨x.1, km L lo.1 x.2⟩ (ih lo.2)
  | dit kvs =>
    obtain ⟨kws, a, b⟩ := q
    refine ⟨kws, kp n p _ hn hp a, ?_⟩
    replace lo : bS h.length (kvs.map (·.2)) = true := lo
    clear a ho ho'
    induction b with
    | nil => exact .nil
    | cons x t ih =>
      simp only [List.map_cons, bS, Bool.and_eq_true] at lo
      exact .cons ⟨x.1, km L lo.1 x.2⟩ (ih lo.2)
section
variable {P : Program} {w : World} {K : PySem.W.Frag} {mg : Str -> Option Value} {base : Heap} {g : GG} {k np : Nat} {f : Addr} {fd : FuncData} {ps : List Str} {m : MF}
theorem g6 {CX : CXT} {ε : XK -> EE} (F : eC P w K mg base CX k f fd ps (spG K g ε np m)) : eC P w K mg base CX k f fd ps (spG K g ε np fun ds h => (m ds h).bind (cu h)) := by
  refine ⟨fun vs H Q E h => ?_, fun A outer s H args us vs Q E hr e0 hb hv hsp => ?_⟩
  · obtain ⟨hl, α, ds, h, rs, hh, w⟩ := h
    exact F.len vs H (fun _ _ => True) E ⟨hl, α, ds, h, rs, hh, w.bind.mono fun _ _ _ _ _ _ _ _ _ _ => trivial⟩
  · obtain ⟨hl, α, ds, h, rs, hh, w⟩ := hsp
    refine codeAny_mono (F.run A outer s H args us vs (fun v H' => ∃ α' d h', Ext K α H α' H' /\ aU K g α' H' h' /\ aE K g α' H' d v /\ WQ K g (ε E) α H (cu h d h') (aK K g α H Q)) E hr e0 hb hv ⟨hl, α, ds, h, rs, hh, w.bind.mono fun d h' _ w1 v H' α' e r rd => ⟨α', d, h', e, r, rd, w1⟩⟩) fun res s' q => ?_
    cases res with
    | error e => exact q
    | ok fl =>
      cases fl with
      | ret u =>
        refine zA (show CE outer P _ H s _ u s' from q) fun v H' ⟨α', d, h', e, r, rd, w⟩ => ?_
        refine ⟨fun p => ∃ n ds, h.length <= n /\ α'[n]? = some p /\ aD h' n = some ds, fun p ⟨n, ds, _, hp, hn⟩ => ?_, fun o => ?_⟩
        · obtain ⟨vs, hv, _⟩ := r.lst hn hp
          exact ⟨_, hv, trivial⟩
        · unfold cu at w
          obtain ⟨hl, w⟩ := WQ.eU w
          cases ez : eO h.length h' 8 d with
          | none => rw [ez] at w; exact w.elim
          | some e' =>
            rw [ez] at w
            generalize hS : (fun p => ∃ n ds, h.length <= n /\ α'[n]? = some p /\ aD h' n = some ds) = S
            have inS : ∀ p, S p ↔ ∃ n ds, h.length <= n /\ α'[n]? = some p /\ aD h' n = some ds := fun p => by rw [<- hS]
            have k0 : α.length = h.length := hh.len
            have notS : ∀ p u, H' p = some u -> (∀ vs, u ≠ .lst vs) -> ¬ S p := fun p u e1 e2 z => by
              obtain ⟨n, ds, _, hp, hn⟩ := (inS p).mp z
              obtain ⟨vs, hv, _⟩ := r.lst hn hp
              rw [e1] at hv; cases hv; exact e2 vs rfl
            have off : ∀ p, ¬ S p -> i7 S o H' p = H' p := fun p z => by unfold i7; rw [if_neg z]
            have L : o8 K α α' H' (i7 S o H') h.length := ⟨fun n hn => qZ e.pre (by omega), fun p xs z => by rw [off p (notS p _ z fun vs z => nomatch z)]; exact z, fun p o u z => by rw [off p (notS p _ z fun vs z => nomatch z)]; exact z⟩
            have kp : ∀ n p u, n < h.length -> α'[n]? = some p -> H' p = some u -> i7 S o H' p = some u := fun n p u hn hp e1 => by
              rw [off p fun z => ?_]; exact e1
              obtain ⟨m, ds, hm, hp', _⟩ := (inS p).mp z
              have := r.inj n m p hp hp'
              omega
            have rd2 : aE K g α (i7 S o H') e' v := kq L r (fun _ _ z => z) (fun n p ds vs hn hl hp hv => ⟨o p, by unfold i7; rw [if_pos ((inS p).mpr ⟨n, ds, hn, hp, hl⟩), hv]; rfl⟩) 8 d e' v ez rd
            refine (show aK K g α H Q e' (h'.take h.length) from w) v _ α ⟨⟨List.prefix_refl _, fun p xs z => L.tup p xs (e.tup p xs z), fun p o u z => L.frz p o u (e.frz p o u z)⟩, fun p u z n => ?_, fun _ z n => absurd z n⟩ ⟨?_, fun n m p h1 h2 => hh.inj n m p h1 h2, fun n p ob h1 h2 => ?_⟩ rd2
            · rw [off p fun z' => ?_]; exact e.keep p u z n
              obtain ⟨m, ds, _, hp', _⟩ := (inS p).mp z'
              have := e.new p (List.mem_of_getElem? hp') n
              rw [z] at this; cases this
            · rw [List.length_take, <- r.len, k0]
              have := e.pre.length_le
              omega
            · have hn : n < h.length := (pH h2).1
              rw [qZ e.pre (by omega)] at h1
              exact uS k0 e r hl L kp n p ob hn h1 h2
      | next => exact q
      | brk => exact q
      | cont => exact q
end
section
variable {X : Cx} {g : GG} {ε : EE}
noncomputable def rD (i j k : Nat) (a : MA) : MS := fun env h => (a env h).bind fun ds h1 => match ds with
  | [x, y, z] => .ok (.nx (((env.set i (some x)).set j (some y)).set k (some z))) h1
  | _ => .bad
noncomputable def A5 (i j k : Nat) (ta : TA) : TS := fun D σ H => ta σ H fun vs H1 => ∃ v w u, vs = [v, w, u] /\ D.nx (((σ.set i (some v)).set j (some w)).set k (some u)) H1
theorem wC {i j k : Nat} {x y z : Str} {a b c : Expr} {ta : TA} {px py pz pt pos : Pos} {kt k2 pt2} (hc : X.calm = true) (hN : X.N.Nodup) (hi : X.N[i]? = some x) (hj : X.N[j]? = some y) (hk : X.N[k]? = some z) (hij : i ≠ j) (hik : i ≠ k) (hjk : j ≠ k)
    (hx : X.env.scope.names.lookup x = some .local) (hy : X.env.scope.names.lookup y = some .local) (hz : X.env.scope.names.lookup z = some .local) (ha : PA X [a, b, c] ta)
    (hw : swappedStores [.Tuple [.Name x px, .Name y py, .Name z pz] kt pt] (.Tuple [a, b, c] k2 pt2) X.env = pure (some [x, y, z]))
    (hs : swapsWithSole [.Tuple [.Name x px, .Name y py, .Name z pz] kt pt] (.Tuple [a, b, c] k2 pt2) pos.line X.env = pure false) :
    PS X (.Assign [.Tuple [.Name x px, .Name y py, .Name z pz] kt pt] (.Tuple [a, b, c] k2 pt2) pos) (A5 i j k ta) := by
  intro pins s σ H D I h
  rw [exec_Assign_arm]
  refine wpAny_bind (wpAny_standAt ?_)
  rw [hs]
  refine wpAny_bind (wpAny_pure ?_)
  rw [if_neg (by decide)]
  refine wpAny_bind (Tuple_ (thn (ha _ pins s σ H _ I h) fun us s1 ⟨vs, H1, I1, r1, q1⟩ => ?_))
  obtain ⟨v, w, u, e1, q1⟩ := q1
  subst e1
  obtain ⟨u1, u2, u3, rfl, rv, rw', ru⟩ : ∃ u1 u2 u3, us = [u1, u2, u3] /\ RelV v u1 /\ RelV w u2 /\ RelV u u3 := by
    cases r1 with
    | cons p q =>
      cases q with
      | cons p' q' =>
        cases q' with
        | cons p'' q'' =>
          cases q''
          exact ⟨_, _, _, rfl, p, p', p''⟩
  refine wpAny_newObj_type ?_ (by show 3 <= sizeLine; decide)
  have I2 : Inv X pins σ H1 { s1 with heap := s1.heap.push { cls := .type "tuple", data := .seq [u1, u2, u3].toArray } } := I1.kept (t' := s1.toks) fun b o e => Heap.get?_push_of_some _ e
  rw [hw]
  refine wpAny_bind (wpAny_pure ?_)
  show wpAny (model X.prog X.w) X.A (do rule "assign.swapped-stores"; let items ← unpackItems (.ref s1.heap.objs.size) 3 none; assignInOrder [fun v => bindName X.env z v, fun v => bindName X.env y v, fun v => bindName X.env x v] items.reverse; pure Flow.next) _ _ _
  refine wpAny_bind (wpAny_rule (wpAny_bind (unpackItems_tuple (items := #[u1, u2, u3]) (I.ok.hd hc) (IsTup.new s1.heap _) fun h' hx' => ?_)))
  have I3 := I2.kept (h' := h') (t' := s1.toks) fun b o e => hx' b o (Nat.ne_of_lt (Heap.lt_size e)) e
  show wpAny _ _ (assignInOrder [fun v => bindName X.env z v, fun v => bindName X.env y v, fun v => bindName X.env x v] [u3, u2, u1] >>= fun _ => pure Flow.next) _ _ _
  refine wpAny_bind (assignInOrder_cons (wpAny_bindName (dR I3 hN hk (.inl hz) ru (fun s2 I4 => ?_) (.inr hz))))
  refine assignInOrder_cons (wpAny_bindName (dR I4 hN hj (.inl hy) rw' (fun s3 I5 => ?_) (.inr hy)))
  refine assignInOrder_cons (wpAny_bindName (dR I5 hN hi (.inl hx) rv (fun s4 I6 => assignInOrder_nil (wpAny_pure ?_)) (.inr hx)))
  have e : ((σ.set k (some u)).set j (some w)).set i (some v) = ((σ.set i (some v)).set j (some w)).set k (some u) := by
    rw [List.set_comm _ _ (Ne.symm hij), List.set_comm _ _ (Ne.symm hik), List.set_comm _ _ (Ne.symm hjk)]
  rw [e] at I6
  exact ⟨_, H1, I6, q1⟩
theorem yU {i j k : Nat} {x y z : Str} {a b c : Expr} {ma : MA} {px py pz pt pos : Pos} {kt k2 pt2} (hc : X.calm = true) (hN : X.N.Nodup) (hi : X.N[i]? = some x) (hj : X.N[j]? = some y) (hk : X.N[k]? = some z) (hij : i ≠ j) (hik : i ≠ k) (hjk : j ≠ k) (ha : PA X [a, b, c] (tMA X.K g ε ma))
    (hx : X.env.scope.names.lookup x = some .local := by rfl) (hy : X.env.scope.names.lookup y = some .local := by rfl) (hz : X.env.scope.names.lookup z = some .local := by rfl)
    (hw : swappedStores [.Tuple [.Name x px, .Name y py, .Name z pz] kt pt] (.Tuple [a, b, c] k2 pt2) X.env = pure (some [x, y, z]) := by rfl)
    (hs : swapsWithSole [.Tuple [.Name x px, .Name y py, .Name z pz] kt pt] (.Tuple [a, b, c] k2 pt2) pos.line X.env = pure false := by rfl) :
    PS X (.Assign [.Tuple [.Name x px, .Name y py, .Name z pz] kt pt] (.Tuple [a, b, c] k2 pt2) pos) (tMS X.K g ε (rD i j k ma)) :=
  PS.imp (wC hc hN hi hj hk hij hik hjk hx hy hz ha hw hs) fun E σ H ⟨α, env, h, s, w⟩ => tMA.use s w.bind fun d1 h1 v1 H1 α1 e1 s1 r1 w1 => by
    cases r1 with
    | nil => exact w1.elim
    | cons ra rr =>
      cases rr with
      | nil => exact w1.elim
      | cons rb rr =>
        cases rr with
        | nil => exact w1.elim
        | cons rc rr =>
          cases rr with
          | nil => exact ⟨_, _, _, rfl, (show cv X.K g α H E (.nx _) h1 from w1) H1 α1 e1 s1.heap _ (((s1.vs.set ra).set rb).set rc)⟩
          | cons _ _ => exact w1.elim
noncomputable def gT3 (i j k : Nat) : D -> En -> Hh -> R En := fun d env h => match d with
  | .tup [x, y, z] => .ok (((env.set i (some x)).set j (some y)).set k (some z)) h
  | _ => .bad
theorem tm {K : PySem.W.Frag} {g : GG} {ε : EE} {i j k : Nat} : vB K g ε (gT3 i j k) (xR K 3 (mI (ik i) (mI (ik j) (mI (ik k) ze)))) := fun α H h env σ d x Q s r w => by
  unfold gT3 at w
  cases r with
  | tup hq rs =>
    cases rs with
    | nil => exact w.elim
    | cons ra rr =>
      cases rr with
      | nil => exact w.elim
      | cons rb rr =>
        cases rr with
        | nil => exact w.elim
        | cons rc rr =>
          cases rr with
          | nil => exact ⟨_, _, rfl, SqT.of hq, rfl, _, _, rfl, _, _, rfl, _, _, rfl, rfl, w _ H α Ext.refl ⟨s.heap, ((s.vs.set ra).set rb).set rc⟩⟩
          | cons _ _ => exact w.elim
  | _ => exact w.elim
noncomputable def tu (i j k : Nat) (m : ME) : MS := fun env h => (m env h).bind fun d h1 => (gT3 i j k d env h1).bind fun e h2 => .ok (.nx e) h2
theorem zQ {i j k : Nat} {x y z : Str} {e : Expr} {me : ME} {px py pz pt pos : Pos} {kt} (hc : X.calm = true) (hN : X.N.Nodup) (hi : X.N[i]? = some x) (hj : X.N[j]? = some y) (hk : X.N[k]? = some z) (he : PE X e (tM X.K g ε me))
    (hx : Loc X.env.scope x := by first | exact Or.inl rfl | exact Or.inr rfl) (hy : Loc X.env.scope y := by first | exact Or.inl rfl | exact Or.inr rfl) (hz : Loc X.env.scope z := by first | exact Or.inl rfl | exact Or.inr rfl)
    (fx : X.fn x = true \/ X.env.scope.names.lookup x = some .local := by first | exact .inl rfl | exact .inr rfl) (fy : X.fn y = true \/ X.env.scope.names.lookup y = some .local := by first | exact .inl rfl | exact .inr rfl) (fz : X.fn z = true \/ X.env.scope.names.lookup z = some .local := by first | exact .inl rfl | exact .inr rfl)
    (hs : swapsWithSole [.Tuple [.Name x px, .Name y py, .Name z pz] kt pt] e pos.line X.env = pure false := by rfl) (hw : swappedStores [.Tuple [.Name x px, .Name y py, .Name z pz] kt pt] e X.env = pure none := by rfl) :
    PS X (.Assign [.Tuple [.Name x px, .Name y py, .Name z pz] kt pt] e pos) (tMS X.K g ε (tu i j k me)) :=
  PS.imp (sZ he (nu hc (dy (bE hN hi hx fx) (dy (bE hN hj hy fy) (dy (bE hN hk hz fz) kj)))) hs hw rfl) fun E σ H ⟨α, env, h, s, w⟩ => tM.use s w.bind fun d1 h1 v1 H1 α1 e1 s1 r1 w1 => by
    refine tm (ε := ε) α1 H1 h1 env σ d1 v1 _ s1 r1 ((w1.ext e1).bind.mono fun e' h2 _ w2 σ2 H2 α2 e2 s2 => ?_)
    exact (show cv X.K g α H E (.nx e') h2 from w2) H2 α2 (e1.trans e2) s2.heap σ2 s2.vs
end
section
variable {X : Cx} {g : GG} {ε : EE} {K : PySem.W.Frag}
noncomputable def gj (m : MF) : MF := fun ds h => if bS 0 ds = true then match m ds [] with
    | .ok d _ => if dO 0 d = true then .ok d h else .bad
    | _ => .bad
  else m ds h
theorem rk {α α' : List Addr} {H H' : Hp} (e : Ext K [] H α' H') : Ext K α H α H' :=
  ⟨⟨List.prefix_refl _, e.tup, e.frz⟩, fun p o h _ => e.keep p o h (by simp), fun p a b => absurd a b⟩
theorem uR {α α' : List Addr} {H H' : Hp} {h : Hh} (e : Ext K [] H α' H') (r : aU K g α H h) : aU K g α H' h :=
  ⟨r.len, r.inj, fun n p o a b => (r.here n p o a b).ex0 (rk (α := α) e).toEx0 fun u hu => e.keep p u hu (by simp)⟩
theorem sW {np : Nat} {m : MF} {vs : List V} {H : Hp} {Q : VK} {E} (h : spM K g np (gj m) vs H Q E) : spM K g np m vs H Q E := by
  obtain ⟨hl, α, ds, h, rs, hh, w⟩ := h
  unfold gj at w
  by_cases lo : bS 0 ds = true
  · rw [if_pos lo] at w
    cases e : m ds [] with
    | bad => rw [e] at w; exact w.elim
    | err x h1 => rw [e] at w; exact w.elim
    | ok d h1 =>
      rw [e] at w
      simp only at w
      obtain ⟨ld, w⟩ := WQ.eU w
      refine ⟨hl, [], ds, [], fN ⟨fun n hn => absurd hn (Nat.not_lt_zero _), fun _ _ z => z, fun _ _ _ z => z⟩ lo rs, ⟨rfl, fun n m p a => by simp at a, fun n p o a => by simp at a⟩, ?_⟩
      rw [e]
      exact fun v H' α' ex hr' rd => (show aK K g α H Q d h from w) v H' α (rk ex) (uR ex hh) (km ⟨fun n hn => absurd hn (Nat.not_lt_zero _), fun _ _ z => z, fun _ _ _ z => z⟩ ld rd)
  · rw [if_neg lo] at w
    exact ⟨hl, α, ds, h, rs, hh, w⟩
theorem kW {P : Program} {w : World} {mg : Str -> Option Value} {base : Heap} {k np : Nat} {f : Addr} {fd : FuncData} {ps : List Str} {m : MF} (F : eC P w K mg base CX0 k f fd ps (spM K g np m)) : eC P w K mg base CX0 k f fd ps (spM K g np (gj m)) :=
  ⟨fun vs H Q E h => F.len vs H Q E (sW h), fun A outer s H args us vs Q E hr e0 hb hv hsp => F.run A outer s H args us vs Q E hr e0 hb hv (sW hsp)⟩
end
end L2.FE
namespace L2.FE
open PySem
section
variable {β γ : Type} {h h1 : Hh} {env : En}
@[simp] theorem bH {b : β} {f : β -> Hh -> R γ} : (R.ok b h).bind f = f b h := Eq.trans rfl rfl
@[simp] theorem Ba {f : β -> Hh -> R γ} : (R.bad).bind f = .bad := Eq.trans rfl rfl
@[simp] theorem zK {c : Prop} [Decidable c] {a b : R β} {f : β -> Hh -> R γ} : (if c then a else b).bind f = if c then a.bind f else b.bind f := by split <;> rfl
@[simp] theorem e_C {d : D} : cC d env h = .ok d h := Eq.trans rfl rfl
@[simp] theorem BS {d : D} {r : En} : ag 0 (some d :: r) h = .ok d h := Eq.trans rfl rfl
@[simp] theorem Bs {i : Nat} {x : Option D} {r : En} : ag (i + 1) (x :: r) h = ag i r h := Eq.trans rfl rfl
@[simp] theorem C1 {f : D -> D -> Hh -> R D} {a b : ME} : ak f a b env h = (a env h).bind fun x h1 => (b env h1).bind fun y h2 => f x y h2 := Eq.trans rfl rfl
@[simp] theorem Dg {f : D -> Hh -> R D} {a : ME} : cUn f a env h = (a env h).bind fun x h1 => f x h1 := Eq.trans rfl rfl
@[simp] theorem Dd : aq env h = .ok [] h := Eq.trans rfl rfl
@[simp] theorem BE {a : ME} {r : MA} : aa a r env h = (a env h).bind fun x h1 => (r env h1).bind fun xs h2 => .ok (x :: xs) h2 := Eq.trans rfl rfl
@[simp] theorem CC {f : List D -> Hh -> R D} {a : MA} : ah f a env h = (a env h).bind f := Eq.trans rfl rfl
@[simp] theorem Bn {f : D -> List D -> Hh -> R D} {o : ME} {a : MA} : jz f o a env h = (o env h).bind fun x h1 => if isL x h1 = true then (a env h1).bind fun xs h2 => f x xs h2 else .bad := Eq.trans rfl rfl
@[simp] theorem Bu {f : D -> Hh -> R Bool} {a : ME} : aZ f a env h = (a env h).bind f := Eq.trans rfl rfl
@[simp] theorem BN {a : MT} : kR a env h = (a env h).bind fun b h1 => .ok (!b) h1 := Eq.trans rfl rfl
@[simp] theorem BL {a b : MT} : jd a b env h = (a env h).bind fun x h1 => if x = true then b env h1 else .ok false h1 := Eq.trans rfl rfl
@[simp] theorem C_ {a b : MT} : vY a b env h = (a env h).bind fun x h1 => if x = true then .ok true h1 else b env h1 := Eq.trans rfl rfl
@[simp] theorem Dj {c : MT} {a b : ME} : cIf c a b env h = (c env h).bind fun x h1 => if x = true then a env h1 else b env h1 := Eq.trans rfl rfl
@[simp] theorem CU {b : Bool} : asB (.bl b) h = .ok b h := Eq.trans rfl rfl
@[simp] theorem Ct {a b : ME} : jV a b env h = (a env h).bind fun x h1 => (asB x h1).bind fun k h2 => if k = true then b env h2 else .ok (.bl false) h2 := Eq.trans rfl rfl
@[simp] theorem Cj {a : ME} : tH a env h = (a env h).bind fun x h1 => (asB x h1).bind fun k h2 => .ok (.bl (!k)) h2 := Eq.trans rfl rfl
@[simp] theorem Bm {f f' : D -> D -> Hh -> R D} {a b c : ME} : mY f f' a b c env h = (a env h).bind fun x h1 => (b env h1).bind fun y h2 => (f x y h2).bind fun z h3 => (asB z h3).bind fun k h4 => if k = true then (c env h4).bind fun w h5 => f' y w h5 else .ok (.bl false) h4 := Eq.trans rfl rfl
noncomputable def xP : D -> Hh -> R (Option Int) := fun d h1 => match d with
  | .int i => .ok (some i) h1
  | _ => .bad
@[simp] theorem Bl {i : Int} : xP (.int i) h = .ok (some i) h := Eq.trans rfl rfl
@[simp] theorem CB {a : ME} : mB a env h = (a env h).bind xP := Eq.trans rfl rfl
@[simp] theorem Bo {nl : NL} {a : ME} {l u : MO} : mQ nl a l u env h = (a env h).bind fun x h1 => (l env h1).bind fun lo h2 => (u env h2).bind fun hi h3 => vG nl x lo hi h3 := Eq.trans rfl rfl
@[simp] theorem BY : fK env h = .ok (.nx env) h := Eq.trans rfl rfl
noncomputable def zd (b : MS) : Fl -> Hh -> R Fl := fun fl h1 => match fl with
  | .nx e => b e h1
  | fl => .ok fl h1
@[simp] theorem Dk {b : MS} {e : En} : zd b (.nx e) h = b e h := Eq.trans rfl rfl
@[simp] theorem Di {b : MS} {d : D} : zd b (.rt d) h = .ok (.rt d) h := Eq.trans rfl rfl
@[simp] theorem CW {a b : MS} : az a b env h = (a env h).bind (zd b) := by
  unfold az
  first | rfl | (congr 1; funext fl h1; cases fl <;> rfl)
@[simp] theorem Cp {a : ME} : eX a env h = (a env h).bind fun _ h1 => .ok (.nx env) h1 := Eq.trans rfl rfl
@[simp] theorem CJ {a : ME} : cb a env h = (a env h).bind fun d h1 => .ok (.rt d) h1 := Eq.trans rfl rfl
@[simp] theorem CN {c : MT} {a b : MS} : jv c a b env h = (c env h).bind fun x h1 => if x = true then a env h1 else b env h1 := Eq.trans rfl rfl
@[simp] theorem C8 {i : Nat} {a : ME} : aY i a env h = (a env h).bind fun d h1 => .ok (.nx (env.set i (some d))) h1 := Eq.trans rfl rfl
noncomputable def Am (i j : Nat) (env : En) : List D -> Hh -> R Fl := fun ds h1 => match ds with
  | [x, y] => .ok (.nx ((env.set i (some x)).set j (some y))) h1
  | _ => .bad
@[simp] theorem BQ {i j : Nat} {x y : D} : Am i j env [x, y] h = .ok (.nx ((env.set i (some x)).set j (some y))) h := Eq.trans rfl rfl
@[simp] theorem C0 {i j : Nat} {a : MA} : lJ i j a env h = (a env h).bind (Am i j env) := by
  rfl
noncomputable def xJ (i j k : Nat) (env : En) : List D -> Hh -> R Fl := fun ds h1 => match ds with
  | [x, y, z] => .ok (.nx (((env.set i (some x)).set j (some y)).set k (some z))) h1
  | _ => .bad
@[simp] theorem Be {i j k : Nat} {x y z : D} : xJ i j k env [x, y, z] h = .ok (.nx (((env.set i (some x)).set j (some y)).set k (some z))) h := Eq.trans rfl rfl
@[simp] theorem B9 {i j k : Nat} {a : MA} : rD i j k a env h = (a env h).bind (xJ i j k env) := by
  rfl
@[simp] theorem pD {i : Nat} {d : D} : gN i d env h = .ok (env.set i (some d)) h := Eq.trans rfl rfl
@[simp] theorem CP {i j : Nat} {x y : D} : gT2 i j (.tup [x, y]) env h = .ok ((env.set i (some x)).set j (some y)) h := Eq.trans rfl rfl
@[simp] theorem Bk {f : D -> D -> D -> Hh -> R Unit} {o i v : ME} : eE f o i v env h = (v env h).bind fun x h1 => (o env h1).bind fun y h2 => (i env h2).bind fun z h3 => (f y z x h3).bind fun _ h4 => .ok (.nx env) h4 := Eq.trans rfl rfl
noncomputable def xQ : Fl -> Hh -> R D := fun fl h1 => match fl with
  | .rt d => .ok d h1
  | .nx _ => .ok .non h1
  | _ => .bad
@[simp] theorem Dh {d : D} : xQ (.rt d) h = .ok d h := Eq.trans rfl rfl
@[simp] theorem Df {e : En} : xQ (.nx e) h = .ok .non h := Eq.trans rfl rfl
theorem bW {n : Nat} {m : MS} {ds : List D} : cJ n m ds h = (m (ds.map some ++ List.replicate (n - ds.length) none) h).bind xQ := by
  unfold cJ
  first | rfl | (congr 1; funext fl h1; cases fl <;> rfl)
section
variable {nl : NL}
@[simp] theorem Bz {i j : Int} : bh nl (.int i) (.int j) h = .ok (.int (i + j)) h := Eq.trans rfl rfl
@[simp] theorem Cn {i j : Int} : dg (.int i) (.int j) h = .ok (.int (i - j)) h := Eq.trans rfl rfl
@[simp] theorem CH {i j : Int} : dLt (.int i) (.int j) h = .ok (.bl (decide (i < j))) h := by unfold dLt; rw [kN]; rfl
@[simp] theorem C9 {i j : Int} : dLe (.int i) (.int j) h = .ok (.bl (decide (i <= j))) h := by unfold dLe; rw [mX]; rfl
@[simp] theorem CO {i j : Int} : dGt (.int i) (.int j) h = .ok (.bl (decide (j < i))) h := by unfold dGt; rw [kN]; rfl
@[simp] theorem C4 {i j : Int} : dGe (.int i) (.int j) h = .ok (.bl (decide (j <= i))) h := by unfold dGe; rw [mX]; rfl
@[simp] theorem Br {i j : Int} : cp nl (.int i) (.int j) h = if sml i = true /\ sml j = true then .ok (.int (i * j)) h else .bad := Eq.trans rfl rfl
@[simp] theorem BA {i j : Int} : tO (.int i) (.int j) h = if 0 < j /\ sml j = true then .ok (.int (i / j)) h else .bad := Eq.trans rfl rfl
@[simp] theorem Cc {i j : Int} : oW (.int i) (.int j) h = if 0 < j then .ok (.int (i % j)) h else .bad := Eq.trans rfl rfl
@[simp] theorem CA {i j : Int} : wR (.int i) (.int j) h = if 0 <= j /\ j.natAbs <= 1000 /\ sml i = true then .ok (.int (i ^ j.toNat)) h else .bad := Eq.trans rfl rfl
@[simp] theorem Cr {i j : Int} : tT [.int i, .int j] h = .ok (.int (max i j)) h := by
  have : (if j > i then j else i) = max i j := by split <;> omega
  rw [<- this]; rfl
@[simp] theorem Bx {b : Bool} : kE [.bl b] h = .ok (.int (if b then 1 else 0)) h := Eq.trans rfl rfl
@[simp] theorem CZ {ds : List D} : cj ds h = if ds.length <= 1000000 then .ok (.tup ds) h else .bad := Eq.trans rfl rfl
@[simp] theorem C3 {ds : List D} : bU nl ds h = if ds.length <= 1000000 then nl ds h else .bad := Eq.trans rfl rfl
@[simp] theorem BZ {ds : List D} : kd ds h = .ok (.ref h.length) (h ++ [.lst ds]) := Eq.trans rfl rfl
@[simp] theorem Ci {ds : List D} : au ds h = .ok (.frl ds) h := Eq.trans rfl rfl
@[simp] theorem Cz {ds : List D} : iA [.tup ds] h = .ok (.int ds.length) h := Eq.trans rfl rfl
@[simp] theorem Ce {ds : List D} : iA [.frl ds] h = .ok (.int ds.length) h := Eq.trans rfl rfl
@[simp] theorem BG {ds : List D} : iA [.scr ds] h = .ok (.int ds.length) h := Eq.trans rfl rfl
noncomputable def ixK (ds : List D) (i : Int) (h : Hh) : R D := match atI ds i with
  | some d => .ok d h
  | none => .bad
@[simp] theorem CQ {ds : List D} {i : Int} : dIx (.tup ds) (.int i) h = ixK ds i h := Eq.trans rfl rfl
@[simp] theorem CM {ds : List D} {i : Int} : dIx (.frl ds) (.int i) h = ixK ds i h := Eq.trans rfl rfl
@[simp] theorem CK {ds : List D} {i : Int} : dIx (.scr ds) (.int i) h = ixK ds i h := Eq.trans rfl rfl
theorem kZ {n : Nat} {ds : List D} {i : Int} (e : aD h n = some ds) : dIx (.ref n) (.int i) h = ixK ds i h := by
  have z : gf (.ref n) h = some ds := e
  delta dIx; rw [z]; rfl
theorem yK {ds : List D} {i : Int} {d : D} (e : atI ds i = some d) : ixK ds i h = .ok d h := by simp only [ixK, e]
theorem tV {β : Type} {xs : List β} {j : Nat} {v : β} {i : Int} (h : xs[j]? = some v) (e : i = (j : Int)) : atI xs i = some v := by rw [e]; exact wc h
theorem f_ {ds : List D} {i : Int} {j : Nat} {d : D} (e : i = (j : Int)) (e2 : ds[j]? = some d) : ixK ds i h = .ok d h := yK (tV e2 e)
noncomputable def gI (ns : List Int) (i : Nat) : Int := ns.getD i 0
theorem gg {ns : List Int} {j : Nat} (hj : j < ns.length) : gI ns j = ns[j] := by
  unfold gI; rw [List.getD_eq_getElem?_getD, List.getElem?_eq_getElem hj]; rfl
theorem zi {ns : List Int} {j : Nat} (hj : j < ns.length) : gI ns j ∈ ns := by rw [gg hj]; exact List.getElem_mem hj
theorem bZ {ns : List Int} {i : Int} {j : Nat} (e : i = (j : Int)) (hj : j < ns.length) : ixK (ns.map D.int) i h = .ok (.int (gI ns j)) h := by
  refine f_ e ?_
  rw [List.getElem?_map, List.getElem?_eq_getElem hj, gg hj]; rfl
@[simp] theorem xr {d : D} {ds : List D} : ixK (d :: ds) 0 h = .ok d h := f_ (j := 0) rfl rfl
@[simp] theorem De {d d1 : D} {ds : List D} : ixK (d :: d1 :: ds) 1 h = .ok d1 h := f_ (j := 1) rfl rfl
@[simp] theorem BV {ds : List D} {lo hi : Option Int} : vG nl (.scr ds) lo hi h = nl (cutD ds lo hi) h := Eq.trans rfl rfl
@[simp] theorem Cq {a b : List D} : bh nl (.tup a) (.tup b) h = if a.length + b.length <= 1000000 then .ok (.tup (a ++ b)) h else .bad := Eq.trans rfl rfl
@[simp] theorem Cg {a b : List D} : bh nl (.frl a) (.frl b) h = if a.length + b.length <= 1000000 then nl (a ++ b) h else .bad := Eq.trans rfl rfl
@[simp] theorem BR {a : List D} {k : Int} : cp nl (.frl a) (.int k) h = if k.natAbs <= 1000000 /\ a.length * k.toNat <= 1000000 then nl (List.replicate k.toNat a).flatten h else .bad := Eq.trans rfl rfl
@[simp] theorem BK {ns : List Int} : sH [.frl (ns.map D.int)] h = .ok (.int ns.sum) h := by simp only [sH, gf, iK]
@[simp] theorem BJ {b : Bool} : oz (.bl b) h = .ok b h := Eq.trans rfl rfl
@[simp] theorem Dc {i j : Int} : dEq (.int i) (.int j) h = .ok (.bl (i == j)) h := Eq.trans rfl rfl
@[simp] theorem CV {i j : Str} : dEq (.str i) (.str j) h = .ok (.bl (i == j)) h := Eq.trans rfl rfl
@[simp] theorem CY {i j : Str} : dNe (.str i) (.str j) h = .ok (.bl (!(i == j))) h := Eq.trans rfl rfl
@[simp] theorem Bf {i : Int} : de [.int i] h = if sml i = true then .ok (.str (toString i)) h else .bad := Eq.trans rfl rfl
@[simp] theorem Cf {i : Int} : sR "int" (.int i) h = .ok (.bl true) h := Eq.trans rfl rfl
@[simp] theorem Cs {i : Int} : sR "bool" (.int i) h = .ok (.bl false) h := Eq.trans rfl rfl
@[simp] theorem zL {j : Int} : fV nl [.int j] h = if j.natAbs <= 1000000 then nl (aP 0 j.toNat) h else .bad := by
  by_cases z : j.natAbs <= 1000000
  · rw [if_pos z]; simp only [fV, rY, if_pos z]
  · rw [if_neg z]; simp only [fV, rY, if_neg z]
@[simp] theorem g_ {ds : List D} {t : Hh} : aD (h ++ .lst ds :: t) h.length = some ds := by
  unfold aD; rw [List.getElem?_append_right (Nat.le_refl _)]; simp
@[simp] theorem nJ {o o' : O} {t : Hh} : (h ++ o :: t).set h.length o' = h ++ o' :: t := by
  rw [List.set_append_right _ _ (Nat.le_refl _)]; simp
theorem xS {n : Nat} {ds : List D} (e : aD h n = some ds) : isL (.ref n) h = true := by simp [isL, e]
theorem iZ {n : Nat} {ds : List D} {i : Int} {j : Nat} {v : D} (e : aD h n = some ds) (e2 : ixN ds.length i = some j) : dX (.ref n) (.int i) v h = .ok () (h.set n (.lst (ds.set j v))) := by delta dX; dsimp only; rw [e]; dsimp only; rw [e2]
theorem tL {n : Nat} {xs ys : List D} {d : D} (e : aD h n = some xs) (e2 : jj d h = some ys) : e_ (.ref n) [d] h = if xs.length + ys.length <= 1000000 then .ok .non (h.set n (.lst (xs ++ ys))) else .bad := by delta e_; dsimp only; rw [e, e2]
@[simp] theorem si {ds ys : List D} {t : Hh} : e_ (.ref h.length) [.frl ys] (h ++ .lst ds :: t) = if ds.length + ys.length <= 1000000 then .ok .non (h ++ .lst (ds ++ ys) :: t) else .bad := by rw [tL g_ rfl, nJ]
theorem qV {n j : Nat} {i : Int} (e : i = (j : Int)) (hj : j < n) : ixN n i = some j := by
  subst e
  unfold ixN
  rw [if_pos (by omega), if_pos (by omega)]; simp
end
@[simp] theorem B7 {a : MA} : dF gG a env h = (a env h).bind gG := Eq.trans rfl rfl
@[simp] theorem BH {a : MA} : dF h9 a env h = (a env h).bind h9 := Eq.trans rfl rfl
@[simp] theorem Bq {j : Int} : gG [.int j] h = if j.natAbs <= 1000000 then .ok (.snap (aP 0 j.toNat)) h else .bad := Eq.trans rfl rfl
@[simp] theorem Bv {i j : Int} : h9 [.int i, .int j] h = if i.natAbs <= 1000000 /\ j.natAbs <= 1000000 then .ok (.snap (aP i (j - i).toNat)) h else .bad := Eq.trans rfl rfl
@[simp] theorem CI {a : ME} : cK a env h = (a env h).bind r_ := Eq.trans rfl rfl
@[simp] theorem CL {ds : List D} : r_ (.frl ds) h = .ok (.snap ds) h := Eq.trans rfl rfl
@[simp] theorem C5 {i j k : Nat} {x y z : D} : gT3 i j k (.tup [x, y, z]) env h = .ok (((env.set i (some x)).set j (some y)).set k (some z)) h := Eq.trans rfl rfl
@[simp] theorem CS {i j k : Nat} {a : ME} : tu i j k a env h = (a env h).bind fun d h1 => (gT3 i j k d env h1).bind fun e h2 => .ok (.nx e) h2 := Eq.trans rfl rfl
theorem AW {n : Nat} {ds : List D} (e : aD h n = some ds) : r_ (.ref n) h = .ok (.live n) h := by simp only [r_, e]
noncomputable def yF (tg : D -> En -> Hh -> R En) (body : MS) (env : En) : Src -> Hh -> R Fl := fun sr h1 => match sr with
  | .snap ds => dW tg body ds env h1
  | .live n => gh (Src.live n).rdr tg body ((aD h1 n).getD []).length 0 env h1
  | .liveE n => gh (Src.liveE n).rdr tg body ((aD h1 n).getD []).length 0 env h1
@[simp] theorem BF {tg : D -> En -> Hh -> R En} {body : MS} {ds : List D} : yF tg body env (.snap ds) h = dW tg body ds env h := Eq.trans rfl rfl
@[simp] theorem C2 {mi : MI} {tg : D -> En -> Hh -> R En} {body : MS} : cR mi tg body env h = (mi env h).bind (yF tg body env) := by
  unfold cR
  congr 1
noncomputable def AS (nl : NL) (tt : MT) (te : ME) (ee : D -> En) : Src -> Hh -> R D := fun sr h1 => if sr.fuel h1 <= 1000000 then
  (match sr with
    | .snap ds => cS tt te ee ds h1
    | .live n => gb (Src.live n).rdr tt te ee ((aD h1 n).getD []).length 0 [] h1
    | .liveE n => gb (Src.liveE n).rdr tt te ee ((aD h1 n).getD []).length 0 [] h1).bind nl else .bad
@[simp] theorem B3 {nl : NL} {mi : MI} {ix : List Nat} {tt : MT} {te : ME} : cL nl mi ix tt te env h = (mi env h).bind (AS nl tt te (i6 ix env)) := Eq.trans rfl rfl
@[simp] theorem Bg {nl : NL} {tt : MT} {te : ME} {ee : D -> En} {ds : List D} : AS nl tt te ee (.snap ds) h = if ds.length <= 1000000 then (cS tt te ee ds h).bind nl else .bad := Eq.trans rfl rfl
@[simp] theorem zI {lo : Int} {n : Nat} : (aP lo n).length = n := by simp [aP]
@[simp] theorem C6 {ix : List Nat} : i6 ix env = fun d => some d :: ix.map fun i => (env[i]?).join := Eq.trans rfl rfl
@[simp] theorem Bh {f : Nat} {c : MT} {b : MS} : gB f c b env h = di c b f env h := Eq.trans rfl rfl
noncomputable def Aj (tg : D -> En -> Hh -> R En) (body : MS) (ds : List D) : Fl -> Hh -> R Fl := fun fl h2 => match fl with
  | .nx e => dW tg body ds e h2
  | .ct e => dW tg body ds e h2
  | .bk e => .ok (.nx e) h2
  | .rt d => .ok (.rt d) h2
theorem iX {tg : D -> En -> Hh -> R En} {body : MS} : dW tg body [] env h = .ok (.nx env) h := rfl
theorem fL {tg : D -> En -> Hh -> R En} {body : MS} {d : D} {ds : List D} : dW tg body (d :: ds) env h = (tg d env h).bind fun e1 h1 => (body e1 h1).bind (Aj tg body ds) := rfl
@[simp] theorem AA {tg : D -> En -> Hh -> R En} {body : MS} {ds : List D} {e : En} : Aj tg body ds (.nx e) h = dW tg body ds e h := Eq.trans rfl rfl
theorem comp_map {X : Type} {tt : MT} {te : ME} {ee : D -> En} (enc : X -> D) (p : X -> Bool) (g : X -> D) : ∀ (xs : List X), (∀ x ∈ xs, tt (ee (enc x)) h = .ok (p x) h /\ (p x = true -> te (ee (enc x)) h = .ok (g x) h)) →
    cS tt te ee (xs.map enc) h = .ok ((xs.filter p).map g) h
  | [], _ => rfl
  | x :: xs, st => by
    obtain ⟨e1, e2⟩ := st x List.mem_cons_self
    have ih := comp_map enc p g xs fun y hy => st y (List.mem_cons_of_mem _ hy)
    rw [List.map_cons, cS, e1, bH]
    cases hp : p x with
    | false => rw [if_neg Bool.false_ne_true, ih, List.filter_cons_of_neg (by simp [hp])]
    | true => rw [if_pos rfl, e2 hp, bH, ih, bH, List.filter_cons_of_pos hp, List.map_cons]
theorem pj {X : Type} {te : ME} {ee : D -> En} (enc : X -> D) (g : X -> D) (xs : List X) (st : ∀ x ∈ xs, te (ee (enc x)) h = .ok (g x) h) : cS tt1 te ee (xs.map enc) h = .ok (xs.map g) h := by
  have := comp_map (tt := tt1) (ee := ee) (h := h) enc (fun _ => true) g xs fun x hx => ⟨rfl, fun _ => st x hx⟩
  rw [List.filter_eq_self.mpr fun _ _ => rfl] at this
  exact this
theorem gW (n : Nat) : aP 0 n = (List.range n).map fun (i : Nat) => D.int i := by
  unfold aP
  apply List.map_congr_left
  intro i _
  rw [Int.zero_add]
theorem lu {n : Nat} {tt : MT} {te : ME} {ee : D -> En} (p : Nat -> Bool) (g : Nat -> D) (st : ∀ i, i < n -> tt (ee (.int (i : Nat))) h = .ok (p i) h /\ (p i = true -> te (ee (.int (i : Nat))) h = .ok (g i) h)) :
    cS tt te ee (aP 0 n) h = .ok (((List.range n).filter p).map g) h := by
  rw [gW, comp_map (fun (i : Nat) => D.int i) p g (List.range n) fun i hi => st i (List.mem_range.mp hi)]
theorem gY {n : Nat} {te : ME} {ee : D -> En} (g : Nat -> D) (st : ∀ i, i < n -> te (ee (.int (i : Nat))) h = .ok (g i) h) :
    cS tt1 te ee (aP 0 n) h = .ok ((List.range n).map g) h := by
  rw [gW, pj (fun (i : Nat) => D.int i) g (List.range n) fun i hi => st i (List.mem_range.mp hi)]
noncomputable def Wf (h : Hh) : Prop := h.all (oO h.length) = true
mutual
theorem rQ {j k : Nat} (h : j <= k) : ∀ (d : D), dO j d = true -> dO k d = true
  | .non, _ => rfl | .bl _, _ => rfl | .int _, _ => rfl | .str _, _ => rfl | .fn _, _ => rfl | .edic, _ => rfl | .exc _ _, _ => rfl
  | .ref n, e => by simp only [dO, decide_eq_true_eq] at e ⊢; omega
  | .tup ds, e => by simp only [dO] at e ⊢; exact cX h ds e
  | .frl ds, e => by simp only [dO] at e ⊢; exact cX h ds e
  | .scr ds, e => by simp only [dO] at e ⊢; exact cX h ds e
theorem cX {j k : Nat} (h : j <= k) : ∀ (ds : List D), bS j ds = true -> bS k ds = true
  | [], _ => rfl
  | d :: ds, e => by
    simp only [bS, Bool.and_eq_true] at e ⊢
    exact ⟨rQ h d e.1, cX h ds e.2⟩
end
theorem sj {j k : Nat} (h : j <= k) (o : O) (e : oO j o = true) : oO k o = true := by
  cases o with
  | lst ds => exact cX h ds e
  | set n => rfl
  | dic kvs => exact cX h _ e
  | dit kvs => exact cX h _ e
theorem mq {k : Nat} : ∀ {ds : List D}, (∀ d ∈ ds, dO k d = true) -> bS k ds = true
  | [], _ => rfl
  | d :: ds, h => by simp only [bS, Bool.and_eq_true]; exact ⟨h d List.mem_cons_self, mq fun e he => h e (List.mem_cons_of_mem _ he)⟩
@[simp] theorem mM {X : Type} {k : Nat} {f : X -> D} {xs : List X} (h : ∀ x, dO k (f x) = true) : bS k (xs.map f) = true := mq fun d hd => by
  obtain ⟨x, _, rfl⟩ := List.mem_map.mp hd; exact h x
@[simp] theorem zr {k : Nat} {ns : List Int} : bS k (ns.map D.int) = true := mM fun _ => rfl
theorem Wf.nil : Wf [] := rfl
theorem Wf.app {h : Hh} {o : O} (w : Wf h) (l : oO (h.length + 1) o = true) : Wf (h ++ [o]) := by
  unfold Wf at w ⊢
  rw [List.all_append, List.length_append, List.length_singleton]
  simp only [List.all_cons, List.all_nil, Bool.and_true, Bool.and_eq_true]
  refine ⟨?_, l⟩
  rw [List.all_eq_true] at w ⊢
  exact fun x hx => sj (Nat.le_succ _) x (w x hx)
noncomputable def deep : Nat -> D -> Bool
  | 0, _ => false
  | f + 1, d => match d with
    | .ref _ => false
    | .scr _ => false
    | .tup ds => ds.all (deep f)
    | .frl ds => ds.all (deep f)
    | _ => true
theorem i5 {f : D -> Option D} : ∀ {ds : List D}, (∀ d ∈ ds, f d = some d) -> jB f ds = some ds
  | [], _ => rfl
  | d :: ds, h => by simp only [jB, h d List.mem_cons_self, i5 fun e he => h e (List.mem_cons_of_mem _ he)]
theorem fJ {k : Nat} {h : Hh} : ∀ (f : Nat) (d : D), deep f d = true -> eO k h f d = some d
  | 0, _, e => by cases e
  | f + 1, d, e => by
    unfold deep at e
    unfold eO
    cases d with
    | ref n => cases e
    | scr n => cases e
    | tup ds => simp only [List.all_eq_true] at e; show Option.map D.tup (jB (eO k h f) ds) = _; rw [i5 (f := eO k h f) fun d hd => fJ f d (e d hd)]; rfl
    | frl ds => simp only [List.all_eq_true] at e; show Option.map D.frl (jB (eO k h f) ds) = _; rw [i5 (f := eO k h f) fun d hd => fJ f d (e d hd)]; rfl
    | _ => rfl
theorem f9 {d : D} {t : Hh} (w : Wf h) (e : deep 8 d = true) : cu h d (h ++ t) = .ok d h := by
  unfold cu
  rw [List.take_left' rfl, if_pos (show h.all (oO h.length) = true from w), fJ 8 d e]
theorem rV {ds : List D} {t : Hh} (w : Wf h) (e : ds.all (deep 7) = true) : cu h (.ref h.length) (h ++ .lst ds :: t) = .ok (.frl ds) h := by
  unfold cu
  rw [List.take_left' rfl, if_pos (show h.all (oO h.length) = true from w)]
  have : eO h.length (h ++ .lst ds :: t) 8 (.ref h.length) = some (.frl ds) := by
    unfold eO
    simp only [Nat.lt_irrefl, if_false, g_]
    rw [List.all_eq_true] at e
    rw [i5 fun d hd => fJ 7 d (e d hd)]; rfl
  rw [this]
@[simp] theorem Ah {f : Nat} {i : Int} : deep (f + 1) (.int i) = true := rfl
@[simp] theorem Bi {f : Nat} {i : Bool} : deep (f + 1) (.bl i) = true := rfl
@[simp] theorem zV {f : Nat} {i : Str} : deep (f + 1) (.str i) = true := rfl
@[simp] theorem AR {f : Nat} : deep (f + 1) .non = true := rfl
@[simp] theorem zJ {f : Nat} : deep (f + 1) .edic = true := rfl
@[simp] theorem Bd {f : Nat} {ds : List D} : deep (f + 1) (.tup ds) = ds.all (deep f) := rfl
@[simp] theorem zP {f : Nat} {ds : List D} : deep (f + 1) (.frl ds) = ds.all (deep f) := rfl
end
noncomputable def Ok {β : Type} (r : R β) (Q : β -> Hh -> Prop) : Prop := ∃ b h, r = .ok b h /\ Q b h
section
variable {β γ : Type} {Q : β -> Hh -> Prop} {h h1 h2 : Hh}
theorem Ok.mono {r : R β} {Q' : β -> Hh -> Prop} (o : Ok r Q) (q : ∀ b h, Q b h -> Q' b h) : Ok r Q' := let ⟨b, h, e, z⟩ := o; ⟨b, h, e, q b h z⟩
end
theorem ni {X : Type} {tg : D -> En -> Hh -> R En} {body : MS} {QS : Fl -> Hh -> Prop} (enc : X -> D) (I : En -> Hh -> Prop) :
    ∀ (xs : List X) (env : En) (h : Hh), I env h -> (∀ x e h, x ∈ xs -> I e h -> Ok ((tg (enc x) e h).bind body) fun fl h2 => match fl with
      | .nx e => I e h2
      | .ct e => I e h2
      | .bk e => QS (.nx e) h2
      | .rt d => QS (.rt d) h2) -> (∀ e h, I e h -> QS (.nx e) h) -> Ok (dW tg body (xs.map enc) env h) QS
  | [], env, h, i, _, q => ⟨_, _, rfl, q _ _ i⟩
  | x :: xs, env, h, i, st, q => by
    obtain ⟨fl, h2, e, z⟩ := st x env h List.mem_cons_self i
    rw [List.map_cons, dW, <- cI, e, bH]
    cases fl with
    | nx e' => exact ni enc I xs e' h2 z (fun y e h hy => st y e h (List.mem_cons_of_mem _ hy)) q
    | ct e' => exact ni enc I xs e' h2 z (fun y e h hy => st y e h (List.mem_cons_of_mem _ hy)) q
    | bk e => exact ⟨_, _, rfl, z⟩
    | rt d => exact ⟨_, _, rfl, z⟩
end L2.FE
namespace L2.FE
open PySem PySem.Spec PyProof.Rows
noncomputable def xO (h : Hh) (n : Nat) : Option (List (Key × D)) := match h[n]? with
  | some (.dic kvs) => some kvs
  | _ => none
noncomputable abbrev PD (K : PySem.W.Frag) (g : GG) (α : List Addr) (H : Hp) : List (Key × D) -> List (Key × V) -> Prop := Paired (fun (a : Key × D) (b : Key × V) => a.1 = b.1 /\ aE K g α H a.2 b.2)
section
variable {K : PySem.W.Frag} {g : GG} {α : List Addr} {H : Hp} {h : Hh}
theorem aU.dic {n : Nat} {p : Addr} {kvs : List (Key × D)} (r : aU K g α H h) (e : xO h n = some kvs) (hp : α[n]? = some p) : ∃ kws, H p = some (.dK kws) /\ PD K g α H kvs kws := by
  unfold xO at e
  cases eo : h[n]? with
  | none => rw [eo] at e; cases e
  | some o =>
    rw [eo] at e
    cases o with
    | dic k => cases e; exact r.here n p _ hp eo
    | _ => cases e
theorem PD.ext {α' : List Addr} {H' : Hp} {kvs : List (Key × D)} {kws : List (Key × V)} (e : Ext K α H α' H') (r : PD K g α H kvs kws) : PD K g α' H' kvs kws := Paired.Ag e.toEx0 r
theorem aK.dic {Q : VK} {kvs : List (Key × D)} {kws : List (Key × V)} {p : Addr} (w : aK K g α H Q (.ref h.length) (h ++ [.dic kvs])) (r : aU K g α H h) (rs : PD K g α H kvs kws) (hp : H p = none) : Q (.ref p) (upd H p (.dK kws)) := by
  have x := Ext.push (K := K) (α := α) (o := .dK kws) hp
  exact w _ _ _ x (r.push hp ⟨_, bg, rs.ext x⟩) (.ref (by rw [<- r.len]; simp))
end
noncomputable def yS : D -> Option Key
  | .int i => some (.inl i)
  | .str x => some (.inr x)
  | _ => none
theorem yJ {K : PySem.W.Frag} {g : GG} {α : List Addr} {H : Hp} {d : D} {v : V} {k : Key} (r : aE K g α H d v) (e : yS d = some k) : v = kV k := by
  cases r <;> cases e <;> rfl
section
variable {X : Cx} {g : GG} {ε : EE} {o i e f : Expr} {mo mi me mf : ME} {pos : Pos}
theorem un1 {A : Around} (h : A.units + 64 < cLine) : A.units + 1 < cLine := by omega
theorem pq : ∀ (ks : List V) (us : List Value), us.length = ks.length -> (∀ (j : Nat) (u : Value), us[j]? = some u -> ∃ v, ks[j]? = some v /\ RelV v u) -> Vals ks us
  | [], [], _, _ => .nil
  | [], _ :: _, e, _ => by simp at e
  | _ :: _, [], e, _ => by simp at e
  | k :: ks, u :: us, e, h => by
    obtain ⟨v, e1, r⟩ := h 0 u rfl
    cases e1
    exact .cons r (pq ks us (by simpa using e) fun j w hj => h (j + 1) w hj)
end
end L2.FE
namespace L2
open PySem PySem.Spec PyProof.Rows
structure Fly (B : Heap) (l : List Env) (e : Addr) (C : Value) (dc : Option Addr) (fl : Value) (h : Heap) : Prop where
  stays : B.StaysIn h
  new : B.get? e = none
  fr : h.FunFrames B l
  obj : ∃ oe ws T oT ts, h.get? e = some oe /\ oe.cls = C /\ oe.dict = dc /\ oe.data = .fields ws /\ ws[1]? = some (.ref T) /\ B.get? T = none /\ T ≠ e /\ h.get? T = some oT /\ oT.data = .fields ts /\ ts[3]? = some fl
theorem Fly.there {B : Heap} {l : List Env} {e : Addr} {C : Value} {dc : Option Addr} {fl : Value} {h : Heap} (x : Fly B l e C dc fl h) : ∃ oe ws, h.get? e = some oe /\ oe.cls = C /\ oe.dict = dc /\ oe.data = .fields ws := by
  obtain ⟨oe, ws, T, oT, ts, a, b, c, d, _⟩ := x.obj
  exact ⟨oe, ws, a, b, c, d⟩
noncomputable def Arr (B : Heap) (l : List Env) (e : Addr) (C : Value) (dc : Option Addr) (h : Heap) : Prop :=
  (B.StaysIn h /\ B.get? e = none /\ h.FunFrames B l /\ ∃ oe ws, h.get? e = some oe /\ oe.cls = C /\ oe.dict = dc /\ oe.data = .fields ws /\ ws[1]? = some .none) \/ Fly B l e C dc .none h
theorem Arr.stays {B : Heap} {l : List Env} {e : Addr} {C : Value} {dc : Option Addr} {h : Heap} (x : Arr B l e C dc h) : B.StaysIn h := x.elim (·.1) (·.stays)
theorem Arr.new {B : Heap} {l : List Env} {e : Addr} {C : Value} {dc : Option Addr} {h : Heap} (x : Arr B l e C dc h) : B.get? e = none := x.elim (·.2.1) (·.new)
theorem Arr.fr {B : Heap} {l : List Env} {e : Addr} {C : Value} {dc : Option Addr} {h : Heap} (x : Arr B l e C dc h) : h.FunFrames B l := x.elim (·.2.2.1) (·.fr)
end L2
namespace L2.FE
open PySem PySem.Spec PyProof.Rows
section
variable {X : Cx} {g : GG} {ε : EE} {K : PySem.W.Frag}
noncomputable def eqI (i : Int) : Value -> Bool
  | .int c _ => c == i
  | _ => false
theorem jh : ∀ {ns : List Int} {us : List Value} {m : Nat} (h : m < us.length), Vals (ns.map V.int) us -> ∃ (h' : m < ns.length) (t : Tok), us[m] = Value.int ns[m] t
  | [], _, m, h, .nil => absurd h (Nat.not_lt_zero _)
  | n :: ns, _, 0, h, .cons r t => by obtain ⟨t, e⟩ := r; exact ⟨Nat.zero_lt_succ _, t, e⟩
  | n :: ns, _ :: us, m + 1, h, .cons r t => by
    obtain ⟨h', t', e⟩ := jh (m := m) (by simpa using h) t
    exact ⟨by simpa using h', t', by simpa using e⟩
end
theorem us0 {P : List Value -> Prop} {us : List Value} (hl : us.length = 0) (h : P []) : P us := by cases us with | nil => exact h | cons _ _ => cases hl
theorem us1 {P : List Value -> Prop} {us : List Value} (hl : us.length = 1) (h : ∀ a, P [a]) : P us := by cases us with | nil => cases hl | cons a us => exact us0 (P := fun us => P (a :: us)) (Nat.succ.inj hl) (h a)
theorem us2 {P : List Value -> Prop} {us : List Value} (hl : us.length = 2) (h : ∀ a b, P [a, b]) : P us := by cases us with | nil => cases hl | cons a us => exact us1 (P := fun us => P (a :: us)) (Nat.succ.inj hl) (h a)
theorem us3 {P : List Value -> Prop} {us : List Value} (hl : us.length = 3) (h : ∀ a b c, P [a, b, c]) : P us := by cases us with | nil => cases hl | cons a us => exact us2 (P := fun us => P (a :: us)) (Nat.succ.inj hl) (h a)
theorem us4 {P : List Value -> Prop} {us : List Value} (hl : us.length = 4) (h : ∀ a b c d, P [a, b, c, d]) : P us := by cases us with | nil => cases hl | cons a us => exact us3 (P := fun us => P (a :: us)) (Nat.succ.inj hl) (h a)
theorem pU {fd : FuncData} {ps : List Str} {us : List Value} (hl : us.length = 1) (h : ∀ a : Value, bindArgs fd ⟨[a], []⟩ = pure (ps.zip [a])) : bindArgs fd ⟨us, []⟩ = pure (ps.zip us) := us1 (P := fun us => bindArgs fd ⟨us, []⟩ = pure (ps.zip us)) hl h
theorem qt {fd : FuncData} {ps : List Str} {us : List Value} (hl : us.length = 2) (h : ∀ a b : Value, bindArgs fd ⟨[a, b], []⟩ = pure (ps.zip [a, b])) : bindArgs fd ⟨us, []⟩ = pure (ps.zip us) := us2 (P := fun us => bindArgs fd ⟨us, []⟩ = pure (ps.zip us)) hl h
theorem qy {fd : FuncData} {ps : List Str} {us : List Value} (hl : us.length = 3) (h : ∀ a b c : Value, bindArgs fd ⟨[a, b, c], []⟩ = pure (ps.zip [a, b, c])) : bindArgs fd ⟨us, []⟩ = pure (ps.zip us) := us3 (P := fun us => bindArgs fd ⟨us, []⟩ = pure (ps.zip us)) hl h
theorem B_ {fd : FuncData} {ps : List Str} {us : List Value} (hl : us.length = 4) (h : ∀ a b c d : Value, bindArgs fd ⟨[a, b, c, d], []⟩ = pure (ps.zip [a, b, c, d])) : bindArgs fd ⟨us, []⟩ = pure (ps.zip us) := us4 (P := fun us => bindArgs fd ⟨us, []⟩ = pure (ps.zip us)) hl h
section
variable {X : Cx} {g : GG} {ε : EE} {K : PySem.W.Frag}
noncomputable def AF (sc o : Scope) : Scope := { sc with names := sc.names.map fun (n, k) => if (k == .free && o.kind == .function && o.names.lookup n == some .cell) then (n, .cell) else (n, k) }
noncomputable def rB : V -> List V -> Hp -> VK -> Prop := fun x vs H Q => ∃ (l : Addr) (ns : List Int) (i : Int) (j : Nat), x = .ref l /\ vs = [.int i] /\ H l = some (.lst (ns.map V.int)) /\ ns.findIdx? (· == i) = some j /\ ns.length < 1000000 /\ Q .non (upd H l (.lst ((ns.map V.int).take j ++ (ns.map V.int).drop (j + 1))))
theorem rR : MtM X "list.remove" rB := by
  intro pins s σ H x vs v us Q I rx rv h
  obtain ⟨l, ns, i, j, rfl, rfl, hH, hj, hz, q⟩ := h
  cases rx
  obtain ⟨u, rfl, ru⟩ := rv.one
  obtain ⟨t0, rfl⟩ := ru
  obtain ⟨z, its, n, r, hl, e⟩ := I.zG hH
  obtain ⟨hlt, hit, hno⟩ := List.findIdx?_eq_some_iff_getElem.mp hj
  have hlen : its.length = ns.length := by have := r.length; simpa using this.symm
  refine call_meets F.slot_list_remove ⟨_, e, rfl⟩ F.entry_list_remove (F.args_list_remove_2 _ _) (MeetsSeq.list_remove l its.toArray n (.int i t0) (eqI i) (fun y hy => ?_) j (by simpa [hlen] using hlt) ?_ ?_ ?_) ⟨e, ?_⟩
  · obtain ⟨m, hm, e'⟩ := List.getElem_of_mem (by simpa using hy : y ∈ its)
    obtain ⟨h', t', e2⟩ := jh hm r
    rw [<- e', e2]
    exact MeetsSeq.EqGives.int _ _ _ _
  · obtain ⟨h', t', e2⟩ := jh (m := j) (by omega) r
    show eqI i its[j] = true
    rw [e2]; exact hit
  · intro m hm h2
    obtain ⟨h', t', e2⟩ := jh (m := m) (by simpa using hm) r
    show eqI i its[m] = false
    rw [e2]
    have := hno m h2
    simpa [eqI] using this
  · rw [List.size_toArray, sizeLine_eq]; omega
  · refine ⟨.non, _, I.xW (its' := its.take j ++ its.drop (j + 1)) hH e ?_ ((r.take j).append (r.drop (j + 1))) ?_, rfl, q⟩
    · apply Array.toList_inj.mp
      simp [Array.toList_eraseIdxIfInBounds, List.eraseIdx_eq_take_drop_succ]
    · have : ((ns.map V.int).take j ++ (ns.map V.int).drop (j + 1)).length <= ns.length := by simp; omega
      exact Nat.le_trans this (Nat.le_trans (Nat.le_of_lt hz) (by rw [sizeLine_eq]; decide))
noncomputable def gX : D -> List D -> Hh -> R D := fun o ds h => match o, ds with
  | .ref n, [.int i] => match aD h n with
    | some xs => match intsOf xs with
      | some ns => match ns.findIdx? (· == i) with
        | some j => if ns.length < 1000000 then .ok .non (h.set n (.lst (xs.take j ++ xs.drop (j + 1)))) else .bad
        | none => .bad
      | none => .bad
    | none => .bad
  | _, _ => .bad
theorem sJ : yM K g ε gX rB := by
  intro α H h o a y x Q r ro ra w
  unfold gX at w
  split at w
  · split at w
    · split at w
      · split at w
        · rename_i n i _ xs e _ ns e2 _ j e5
          obtain ⟨hl, w⟩ := WQ.eU w
          cases ro with
          | @ref _ p hp =>
            cases ra with
            | cons rd rr =>
              cases rd
              cases rr
              obtain ⟨vs, hv, rs⟩ := r.lst e hp
              have e3 := gx e2
              subst e3
              have e4 := rs.uo
              subst e4
              refine ⟨p, ns, i, j, rfl, rfl, hv, e5, hl, ?_⟩
              have x := Ext.write (o := .lst ((ns.map V.int).take j ++ (ns.map V.int).drop (j + 1))) r hp
              exact (show aK K g α H Q _ _ from w) _ _ α x (r.write hp ⟨_, bg, ((rs.take j).append (rs.drop (j + 1))).ext x⟩) .non
        · exact w.elim
      · exact w.elim
    · exact w.elim
  · exact w.elim
theorem ub {n : Nat} {ns : List Int} {i : Int} {j : Nat} {h : Hh} (e : aD h n = some (ns.map D.int)) (e2 : ns.findIdx? (· == i) = some j) (hl : ns.length < 1000000) : gX (.ref n) [.int i] h = .ok .non (h.set n (.lst ((ns.take j ++ ns.drop (j + 1)).map D.int))) := by
  delta gX; dsimp only; rw [e]; dsimp only; rw [iK]; dsimp only; rw [e2]; dsimp only
  rw [if_pos hl, List.map_append, List.map_take, List.map_drop]
end
end L2.FE
namespace L2.Srt
open PySem PySem.W PyProof.Rows
section
variable {n : Nat} {key : Nat -> Int}
structure Pm (n : Nat) (p : Array Nat) : Prop where
  size : p.size = n
  perm : p.Perm (List.range n).toArray
theorem Pm.lt {p : Array Nat} (h : Pm n p) {i : Nat} (hi : i < n) : p.getD i 0 < n := by
  have hi' : i < p.size := by rw [h.size]; exact hi
  have e : p.getD i 0 = p[i] := by simp [Array.getD, hi']
  rw [e]
  have := h.perm.mem_iff.mp (Array.getElem_mem hi')
  simpa using this
noncomputable def Dn (key : Nat -> Int) (p : Array Nat) (m : Nat) : Prop := ∀ i j, i < j -> j < m -> key (p.getD j 0) < key (p.getD i 0)
variable (inj : ∀ i j, i < n -> j < n -> key i = key j -> i = j)
include inj
omit inj in
omit inj in
omit inj in
omit inj in
omit inj in
omit inj in
end
end L2.Srt
namespace L2.Srt
open PySem PySem.W PyProof.Rows PySem.Calls
section
variable {prog : Program} {w : World} {A : Around} {E : Value -> Shared -> Prop} {s : Shared} {vs : List Value}
inductive Prs (h : Heap) : List Value -> List (Int × Int) -> Prop
  | nil : Prs h [] []
  | cons {a : Addr} {o : Obj} {k : Nat} {t u : Tok} {x y : Int} {vs : List Value} {ps : List (Int × Int)} : h.get? a = some o -> o.cls = .type "tuple" -> o.data = .seq #[.int x t, .int y u] k -> Prs h vs ps -> Prs h (.ref a :: vs) ((x, y) :: ps)
theorem Prs.len {h : Heap} {vs : List Value} {ps : List (Int × Int)} (r : Prs h vs ps) : vs.length = ps.length := by
  induction r with
  | nil => rfl
  | cons _ _ _ _ ih => simp [ih]
end
end L2.Srt
namespace L2
open PySem PySem.Spec PyProof.Rows L2.Srt
inductive PrV (K : PySem.W.Frag) (H : Hp) : List V -> List (Int × Int) -> Prop
  | nil : PrV K H [] []
  | cons {a : Addr} {x y : Int} {xs : List V} {ps : List (Int × Int)} : SqT K H a [.int x, .int y] -> PrV K H xs ps -> PrV K H (.ref a :: xs) ((x, y) :: ps)
section
variable {X : Cx}
theorem PrV.len {K : PySem.W.Frag} {H : Hp} {xs : List V} {ps : List (Int × Int)} (r : PrV K H xs ps) : xs.length = ps.length := by
  induction r with
  | nil => rfl
  | cons _ _ ih => simp [ih]
end
end L2
namespace L2.FE
open PySem PySem.Spec PyProof.Rows
noncomputable def setOf (h : Hh) (n : Nat) : Option (List Int) := match h[n]? with
  | some (.set ns) => some ns
  | _ => none
section
variable {X : Cx} {g : GG} {ε : EE} {K : PySem.W.Frag}
theorem aU.set {α : List Addr} {H : Hp} {h : Hh} {n : Nat} {p : Addr} {ns : List Int} (r : aU K g α H h) (e : setOf h n = some ns) (hp : α[n]? = some p) : H p = some (.set (fun k => ns.any (· == k)) ns.length) := by
  unfold setOf at e
  cases eo : h[n]? with
  | none => rw [eo] at e; cases e
  | some o =>
    rw [eo] at e
    cases o with
    | set k => cases e; exact r.here n p _ hp eo
    | _ => cases e
end
noncomputable def cM (h : Hh) (n : Nat) : Option (List (List Key × D)) := match h[n]? with
  | some (.dit kvs) => some kvs
  | _ => none
noncomputable def m8 : List (List Key × D) -> List Key -> Option D
  | [], _ => none
  | p :: r, k => if p.1 = k then some p.2 else m8 r k
noncomputable def uu (kvs : List (List Key × D)) (k : List Key) (d : D) : List (List Key × D) :=
  if (kvs.any fun kv => decide (kv.1 = k)) = true then kvs.map (fun kv => if kv.1 = k then (kv.1, d) else kv) else kvs ++ [(k, d)]
noncomputable abbrev PDT (K : PySem.W.Frag) (g : GG) (α : List Addr) (H : Hp) : List (List Key × D) -> List (List Key × V) -> Prop := Paired (fun (a : List Key × D) (b : List Key × V) => a.1 = b.1 /\ aE K g α H a.2 b.2)
section
variable {K : PySem.W.Frag} {g : GG} {α : List Addr} {H : Hp} {h : Hh}
theorem aU.dit {n : Nat} {p : Addr} {kvs : List (List Key × D)} (r : aU K g α H h) (e : cM h n = some kvs) (hp : α[n]? = some p) : ∃ kws, H p = some (.dT kws) /\ PDT K g α H kvs kws := by
  unfold cM at e
  cases eo : h[n]? with
  | none => rw [eo] at e; cases e
  | some o =>
    rw [eo] at e
    cases o with
    | dit k => cases e; exact r.here n p _ hp eo
    | _ => cases e
theorem PDT.val (k : List Key) : ∀ {kvs : List (List Key × D)} {kws : List (List Key × V)}, PDT K g α H kvs kws -> (m8 kvs k = none /\ iP kws k = none) \/ ∃ d v, m8 kvs k = some d /\ iP kws k = some v /\ aE K g α H d v
  | _, _, .nil => .inl ⟨rfl, rfl⟩
  | p :: r, q :: t, .cons c rr => by
    by_cases e : p.1 = k
    · exact .inr ⟨p.2, q.2, if_pos e, i_ (c.1 ▸ e), c.2⟩
    · rw [show m8 (p :: r) k = m8 r k from if_neg e, i9 (c.1 ▸ e)]
      exact PDT.val k rr
theorem PDT.any (k : List Key) : ∀ {kvs : List (List Key × D)} {kws : List (List Key × V)}, PDT K g α H kvs kws -> (kvs.any fun kv => decide (kv.1 = k)) = kws.any fun kv => decide (kv.1 = k)
  | _, _, .nil => rfl
  | p :: r, q :: t, .cons c rr => by rw [List.any_cons, List.any_cons, PDT.any k rr, c.1]
theorem PDT.r6 (k : List Key) {d : D} {v : V} (rd : aE K g α H d v) : ∀ {kvs : List (List Key × D)} {kws : List (List Key × V)}, PDT K g α H kvs kws →
    PDT K g α H (kvs.map fun kv => if kv.1 = k then (kv.1, d) else kv) (kws.map fun kv => if kv.1 = k then (kv.1, v) else kv)
  | _, _, .nil => .nil
  | p :: r, q :: t, .cons c rr => by
    refine .cons ?_ (PDT.r6 k rd rr)
    dsimp only
    by_cases e : p.1 = k
    · rw [if_pos e, if_pos (c.1 ▸ e)]; exact ⟨c.1, rd⟩
    · rw [if_neg e, if_neg (c.1 ▸ e)]; exact c
theorem PDT.snoc {x : List Key × D} {y : List Key × V} (c : x.1 = y.1 /\ aE K g α H x.2 y.2) : ∀ {kvs : List (List Key × D)} {kws : List (List Key × V)}, PDT K g α H kvs kws -> PDT K g α H (kvs ++ [x]) (kws ++ [y])
  | _, _, .nil => .cons c .nil
  | _ :: _, _ :: _, .cons b rr => .cons b (PDT.snoc c rr)
theorem PDT.put (k : List Key) {d : D} {v : V} (rd : aE K g α H d v) {kvs : List (List Key × D)} {kws : List (List Key × V)} (r : PDT K g α H kvs kws) : PDT K g α H (uu kvs k d) (putK kws k v) := by
  unfold uu putK
  rw [PDT.any k r]
  split
  · exact PDT.r6 k rd r
  · exact PDT.snoc ⟨rfl, rd⟩ r
theorem PDT.ext {α' : List Addr} {H' : Hp} {kvs : List (List Key × D)} {kws : List (List Key × V)} (e : Ext K α H α' H') (r : PDT K g α H kvs kws) : PDT K g α' H' kvs kws := Paired.Ae e.toEx0 r
theorem PDT.length : ∀ {kvs : List (List Key × D)} {kws : List (List Key × V)}, PDT K g α H kvs kws -> kvs.length = kws.length
  | _, _, .nil => rfl
  | _ :: _, _ :: _, .cons _ rr => congrArg (· + 1) (PDT.length rr)
theorem aK.dit {Q : VK} {kvs : List (List Key × D)} {kws : List (List Key × V)} {p : Addr} (w : aK K g α H Q (.ref h.length) (h ++ [.dit kvs])) (r : aU K g α H h) (rs : PDT K g α H kvs kws) (hp : H p = none) : Q (.ref p) (upd H p (.dT kws)) := by
  have x := Ext.push (K := K) (α := α) (o := .dT kws) hp
  exact w _ _ _ x (r.push hp ⟨_, bg, rs.ext x⟩) (.ref (by rw [<- r.len]; simp))
end
noncomputable def kz : List D -> Option (List Key)
  | [] => some []
  | d :: ds => match yS d, kz ds with
    | some k, some ks => some (k :: ks)
    | _, _ => none
noncomputable def jJ : D -> Option (List Key)
  | .tup ds => kz ds
  | _ => none
theorem qE {K : PySem.W.Frag} {g : GG} {α : List Addr} {H : Hp} : ∀ {ds : List D} {vs : List V} {ks : List Key}, aw K g α H ds vs -> kz ds = some ks -> vs = ks.map kV
  | _, _, ks, .nil, e => by cases e; rfl
  | d :: ds, _, ks, .cons r rs, e => by
    unfold kz at e
    cases e1 : yS d with
    | none => rw [e1] at e; cases e
    | some k =>
      cases e2 : kz ds with
      | none => rw [e1, e2] at e; cases e
      | some ks' =>
        rw [e1, e2] at e
        cases e
        rw [yJ r e1, qE rs e2]; rfl
theorem nZ {K : PySem.W.Frag} {g : GG} {α : List Addr} {H : Hp} {d : D} {v : V} {k : List Key} (r : aE K g α H d v) (e : jJ d = some k) : ∃ b, v = .ref b /\ H b = some (.tup (k.map kV)) := by
  cases r with
  | tup hp rs => exact ⟨_, rfl, by rw [hp, qE rs e]⟩
  | _ => cases e
noncomputable def rC : ME := fun _ h => .ok (.ref h.length) (h ++ [.dit []])
noncomputable def mD : D -> D -> Hh -> R D := fun o i h => match o, jJ i with
  | .ref n, some k => match cM h n with
    | some kvs => match m8 kvs k with
      | some d => .ok d h
      | none => .bad
    | none => .bad
  | _, _ => .bad
noncomputable def mG : D -> D -> D -> Hh -> R Unit := fun o i v h => match o, jJ i with
  | .ref n, some k => match cM h n with
    | some kvs => if kvs.length < 1000000 then .ok () (h.set n (.dit (uu kvs k v))) else .bad
    | none => .bad
  | _, _ => .bad
section
variable {X : Cx} {g : GG} {ε : EE} {o i e f : Expr} {mo mi me mf : ME} {pos : Pos}
theorem wm : PE X (.Dict [] [] pos) (tM X.K g ε rC) :=
  PE.imp uO fun σ H Q ⟨α, env, h, s, w⟩ p hp => aK.dit (show aK X.K g α H Q _ _ from w) s.heap .nil hp
theorem w8 (hu : X.A.units + 1 < cLine) (ho : PE X o (tM X.K g ε mo)) (hi : PE X i (tM X.K g ε mi)) (hs : x_ i) : PE X (.Subscript o i pos) (tM X.K g ε (ak mD mo mi)) :=
  PE.imp (wb hu ho hi hs) fun σ H Q ⟨α, env, h, s, w⟩ => tM.use s w.bind fun d1 h1 v1 H1 α1 e1 s1 r1 w1 => tM.use s1 (w1.ext e1).bind fun d2 h2 v2 H2 α2 e2 s2 r2 w2 => by
    unfold mD at w2
    cases ek : jJ d2 with
    | none => rw [ek] at w2; cases d1 <;> exact w2.elim
    | some k =>
      rw [ek] at w2
      cases (r1.ext e2) with
      | @ref n p hp =>
        simp only at w2
        cases ed : cM h2 n with
        | none => rw [ed] at w2; exact w2.elim
        | some kvs =>
          rw [ed] at w2
          obtain ⟨kws, hd, rs⟩ := s2.heap.dit ed hp
          obtain ⟨b', rfl, eb⟩ := nZ r2 ek
          simp only at w2
          rcases rs.val k with ⟨ev, _⟩ | ⟨d, v, ev, ew, rv⟩
          · rw [ev] at w2; exact w2.elim
          · rw [ev] at w2
            refine ⟨p, v, rfl, ?_, aK.now (aK.ext (e1.trans e2) (show aK X.K g α H Q d h2 from w2)) s2.heap rv⟩
            rw [<- ew]
            exact nY.t hd eb
      | _ => exact w2.elim
theorem za {p : Pos} (hu : X.A.units + 1 < cLine) (he : PE X e (tM X.K g ε me)) (ho : PE X o (tM X.K g ε mo)) (hi : PE X i (tM X.K g ε mi))
    (hs : swapsWith e (some (.Subscript o i p)) pos.line X.env = pure false := by rfl) : PS X (.Assign [.Subscript o i p] e pos) (tMS X.K g ε (eE mG mo mi me)) :=
  PS.imp (vI hu ho hi he hs) fun E σ H ⟨α, env, h, s, w⟩ => tM.use s w.bind fun d1 h1 v1 H1 α1 e1 s1 r1 w1 => tM.use s1 (w1.ext e1).bind fun d2 h2 v2 H2 α2 e2 s2 r2 w2 => tM.use s2 (w2.ext e2).bind fun d3 h3 v3 H3 α3 e3 s3 r3 w3 => by
    have w4 := (w3.ext e3).bind
    unfold mG at w4
    cases ek : jJ d3 with
    | none => rw [ek] at w4; cases d2 <;> exact w4.elim
    | some k =>
      rw [ek] at w4
      cases (r2.ext e3) with
      | @ref n p hp =>
        simp only at w4
        cases ed : cM h3 n with
        | none => rw [ed] at w4; exact w4.elim
        | some kvs =>
          rw [ed] at w4
          obtain ⟨hl, w4⟩ := WQ.eU w4
          obtain ⟨kws, hd, rs⟩ := s3.heap.dit ed hp
          obtain ⟨b', rfl, eb⟩ := nZ r3 ek
          refine ⟨p, _, rfl, uL.t hd eb (by rw [<- rs.length, sizeLine_eq]; omega), ?_⟩
          have x := Ext.write (o := .dT (putK kws k v1)) s3.heap hp
          have ra := (r1.ext e2).ext e3
          exact (show cv X.K g α H E (.nx env) _ from w4) _ _ (e1.trans (e2.trans (e3.trans x))) (s3.heap.write hp ⟨_, bg, (rs.put k ra).ext x⟩) _ (s3.vs.ext x)
      | _ => exact w4.elim
end
end L2.FE
namespace L2
open PySem PySem.Spec PyProof.Rows
section
variable {prog : Program} {w : World} {A : Around} {R : Result -> Shared -> Prop} {s : Shared} {elt tg iter tg2 iter2 : Expr} {scope : Scope} {pos : Pos} {it acc : Value} {env : Env}
noncomputable abbrev e2 (elt tg iter tg2 iter2 : Expr) (scope : Scope) (pos : Pos) : Expr := .ListComp elt [⟨tg, iter, [], 0⟩, ⟨tg2, iter2, [], 0⟩] scope pos
end
theorem mF : ∀ (names : List (Str × NameKind)) (n : Nat) (h : Heap) (acc : List (Str × Addr)), names.filter (fun y => y.2 == .cell) = [] -> cellsFrom n names acc = acc /\ pushCells h names = h
  | [], n, h, acc, _ => ⟨rfl, rfl⟩
  | (m, k) :: r, n, h, acc, e => by
    unfold cellsFrom pushCells
    cases hk : k == NameKind.cell with
    | true => rw [List.filter_cons] at e; simp [hk] at e
    | false =>
      rw [List.filter_cons] at e
      simp only [hk, Bool.false_eq_true, if_false] at e ⊢
      exact mF r n h acc e
theorem mK {x : Str} : ∀ (names : List (Str × NameKind)) (n : Nat) (h : Heap) (acc : List (Str × Addr)), names.filter (fun y => y.2 == .cell) = [(x, .cell)] -> cellsFrom n names acc = (x, n) :: acc /\ pushCells h names = h.push { cls := .type "cell", data := .cell none }
  | [], n, h, acc, e => by cases e
  | (m, k) :: r, n, h, acc, e => by
    unfold cellsFrom pushCells
    cases hk : k == NameKind.cell with
    | true =>
      rw [List.filter_cons] at e
      simp only [hk, if_true] at e ⊢
      obtain ⟨e1, e2⟩ := List.cons.inj e
      cases e1
      exact mF r (n + 1) _ _ e2
    | false =>
      rw [List.filter_cons] at e
      simp only [hk, Bool.false_eq_true, if_false] at e ⊢
      exact mK r n h acc e
theorem wD {M : Model} {A : Around} {E : Value -> Shared -> Prop} {s : Shared} {scope : Scope} {globals : Addr} {cl : List (Str × Addr)} {qual : Str} {outer : Env} {builtins : Addr} {x : Str} {Q : Env -> Shared -> Prop}
    (hc : scope.names.filter (fun y => y.2 == .cell) = [(x, .cell)]) (hk : scope.kind = .function)
    (hQ : ∀ h' : Heap, h'.Ns s.heap.objs.size (fun _ => none) -> h'.IsCell (s.heap.objs.size + 1) none -> (∀ b o, s.heap.get? b = some o -> h'.get? b = some o) →
      Q (newEnv scope s.heap.objs.size globals ((x, s.heap.objs.size + 1) :: cl) qual none .none (some outer) builtins) { s with heap := h' }) :
    wpAny M A (newFunctionEnv scope globals cl [] qual none .none (some outer) builtins) Q E s := by
  simp only [newFunctionEnv, Option.isSome_some, if_true]
  refine wpAny_bind (wpAny_alloc ?_)
  refine wpAny_bind (wpAny_layCells _ (fun name kind cells => by cases hkc : kind == NameKind.cell <;> simp [hkc]) _ _ _ _ ?_)
  obtain ⟨e1, e2⟩ := mK scope.names (s.heap.objs.size + 1) (s.heap.push { cls := .type "dict", data := .dict #[] }) cl hc
  rw [show ({ s with heap := s.heap.push { cls := .type "dict", data := .dict #[] } } : Shared).heap.objs.size = s.heap.objs.size + 1 from Heap.size_push ..]
  rw [e1]
  dsimp only
  rw [e2]
  refine wpAny_bind ?_
  rw [List.forIn_nil]
  refine wpAny_pure (wpAny_pure ?_)
  refine hQ _ ((Heap.Ns.new s.heap (.type "dict")).keeps fun b o e => Heap.get?_push_of_some _ e) ⟨{ cls := .type "cell", data := .cell none }, ?_, rfl⟩ (fun b o e => Heap.get?_push_of_some _ (Heap.get?_push_of_some _ e))
  have := Heap.get?_push_size (s.heap.push { cls := .type "dict", data := .dict #[] }) (o := { cls := .type "cell", data := .cell none }) rfl
  rw [Heap.size_push] at this
  exact this
theorem d_ {env : Env} : ∀ {names : List (Str × NameKind)} {x : Str}, names.lookup x = some .cell →
    (names.map fun (n, k) => if (k == NameKind.free && env.scope.kind == .function && env.kindOf n == some .cell) then (n, NameKind.cell) else (n, k)).lookup x = some .cell
  | [], _, h => by simp at h
  | (n, k) :: r, x, h => by
    have ih := @d_ env r x
    show List.lookup x ((if (k == NameKind.free && env.scope.kind == .function && env.kindOf n == some .cell) = true then (n, NameKind.cell) else (n, k)) :: _) = _
    cases hx : x == n with
    | true =>
      simp only [List.lookup_cons, hx] at h
      cases h
      simp [List.lookup_cons, hx]
    | false =>
      simp only [List.lookup_cons, hx] at h
      by_cases hc : (k == NameKind.free && env.scope.kind == .function && env.kindOf n == some .cell) = true
      · rw [if_pos hc]; simp only [List.lookup_cons, hx]; exact ih h
      · rw [if_neg hc]; simp only [List.lookup_cons, hx]; exact ih h
noncomputable def kX (scope : Scope) (cl : List (Str × Addr)) (C : Addr) (env : Env) (x : Str) : Env :=
  { scope := relabel scope env, locals := C, globals := env.globals, cells := (x, C + 1) :: cl, qual := env.qual, func := none, code := env.code, frame := env.frame, builtins := env.builtins }
noncomputable def jk (X : Cx) (scope : Scope) (cl : List (Str × Addr)) (C : Addr) (aQ : Shared) (bx : Hp) (fp : List Addr) (N' : List Str) (x : Str) : Cx :=
  { X with N := N', aQ := aQ, bx := bx, env := kX scope cl C X.env x, outer := X.stack, ex := fp, fn := fun y => y == x, pn := [] }
theorem tY {X : Cx} {elt iter : Expr} {x : Str} {px : Pos} {ifs : List Expr} {scope osc : Scope} {pos : Pos} {wi : TI} {tt : TT} {te : TE} (ix : List Nat) (N' : List Str)
    (hxe : X.xe = fun _ _ => False) (hc : X.calm = true) (ho : X.env.scope = osc) (hN : N' = x :: ix.map fun i => (X.N[i]?).getD x) (hnd : N'.Nodup)
    (hall : (∀ y ∈ scope.names, y.2 = .free -> osc.names.lookup y.1 = some .cell) /\ scope.names.filter (fun y => y.2 == .cell) = [(x, .cell)] /\ scope.kind = .function /\ (∀ y ∈ scope.names, y.2 = .local -> scope.names.lookup y.1 = some .local) /\ scope.names.lookup x = some .cell /\ (∀ y ∈ N'.tail, scope.names.lookup y = some .free))
    (hi : PI X (.Name x px) iter wi)
    (ht : ∀ cl C aQ bx fp, PTs (jk X scope cl C aQ bx fp N' x) ifs tt)
    (he : ∀ cl C aQ bx fp, PE (jk X scope cl C aQ bx fp N' x) elt te)
    (hs : ∀ x, foldedSetIterable iter X.env x = pure x := by intro _; rfl) :
    PE X (.ListComp elt [⟨.Name x px, iter, ifs, 0⟩] scope pos) (uh wi ix tt te) := by
  intro pins s σ H Q I h
  obtain ⟨hfr, hcell, hkind, hnames, hx, hcap⟩ := hall
  subst ho
  have outc : ∀ y ∈ scope.names, y.2 = .free -> X.env.kindOf y.1 = some .cell := fun y hy q => hfr y hy q
  obtain ⟨cl, hclos, hcl1, hcl2⟩ := ie (env := X.env) (scope := scope) fun y hy q => I.ok.has y.1 (.inl (outc y hy q))
  rw [eval_ListComp]
  refine wpAny_comprehension_free (use := none) rfl hs hclos hkind hnames (thn (hi pins s σ H _ I h) fun v s1 h1 => thn h1 fun itv s2 h2 => ?_)
  obtain ⟨it, fp, tn, J, H2, e, I2, T, st2, f2, rest⟩ := h2
  subst e
  have hf2 : H2 s2.heap.objs.size = none := I2.hok.fresh (Nat.le_refl _)
  obtain ⟨W, ⟨m0, w0⟩, turn⟩ := rest s2.heap.objs.size hf2
  -- the list
  refine wpAny_newObj_type ?_
  have I3 : Inv X pins σ (upd H2 s2.heap.objs.size (.lst [])) { s2 with heap := s2.heap.push { cls := .type "list", dict := none, data := .seq ([] : List Value).toArray } } := I2.vQ (its := []) (t' := s2.toks) .nil (Nat.zero_le _)
  have keep3 : ∀ b o, s2.heap.get? b = some o -> (s2.heap.push { cls := .type "list", dict := none, data := .seq ([] : List Value).toArray }).get? b = some o := fun b o q => Heap.get?_push_of_some _ q
  have fp3 : ∀ b ∈ fp, ∃ o, s2.heap.get? b = some o /\ ∀ v, o.data ≠ .cell v := T.obj _ _ st2
  have st3 : tn 0 (s2.heap.push { cls := .type "list", dict := none, data := .seq ([] : List Value).toArray }) := T.keep _ _ _ st2 fun b _ o q => keep3 b o q
  have fpn : ∀ b ∈ fp, (upd H2 s2.heap.objs.size (HO.lst [])) b = none := fun b hb => by
    obtain ⟨o, q, _⟩ := fp3 b hb
    rw [aS (Nat.ne_of_lt (Heap.lt_size q))]
    exact (f2 b hb).1
  revert I3 keep3 st3 fpn w0
  generalize hS3 : ({ s2 with heap := s2.heap.push { cls := .type "list", dict := none, data := .seq ([] : List Value).toArray } } : Shared) = s3
  generalize hH3 : upd H2 s2.heap.objs.size (HO.lst []) = H3
  intro w0 I3 keep3 st3 fpn
  have acc3 : H3 s2.heap.objs.size = some (.lst []) := by rw [<- hH3]; exact bg
  generalize s2.heap.objs.size = acc at *
  have e3 : s2.heap.push { cls := .type "list", dict := none, data := .seq ([] : List Value).toArray } = s3.heap := by rw [<- hS3]
  have keep3' : ∀ b o, s2.heap.get? b = some o -> s3.heap.get? b = some o := fun b o q => by rw [<- e3]; exact keep3 b o q
  have st3' : tn 0 s3.heap := by rw [<- e3]; exact st3
  refine wD hcell hkind (fun h₁ hns₁ hce₁ keep4 => ?_)
  have hC : s3.heap.objs.size = s3.heap.objs.size := rfl
  have fpC : ∀ b ∈ fp, b ≠ s3.heap.objs.size := fun b hb => by
    obtain ⟨o, q, _⟩ := fp3 b hb
    exact Nat.ne_of_lt (Heap.lt_size (keep3' b o q))
  have fpL : ∀ b ∈ fp, b ≠ s3.heap.objs.size + 1 := fun b hb => by
    obtain ⟨o, q, _⟩ := fp3 b hb
    exact Nat.ne_of_lt (Nat.lt_succ_of_lt (Heap.lt_size (keep3' b o q)))
  have cel : ∀ y c, ((x, s3.heap.objs.size + 1) :: cl).lookup y = some c -> (y = x /\ c = s3.heap.objs.size + 1) \/ (y ≠ x /\ cl.lookup y = some c) := fun y c p => by
    rw [List.lookup_cons] at p
    cases hy : y == x with
    | true => rw [hy] at p; cases p; exact .inl ⟨by simpa using hy, rfl⟩
    | false => rw [hy] at p; exact .inr ⟨by simpa using hy, p⟩
  have clt : ∀ y c, cl.lookup y = some c -> c < s3.heap.objs.size := fun y c p => by
    obtain ⟨v, o, q1, _⟩ := I3.cell y c (hcl1 y c p)
    exact Heap.lt_size q1
  have hxl : ((x, s3.heap.objs.size + 1) :: cl).lookup x = some (s3.heap.objs.size + 1) := by simp [List.lookup_cons]
  have hol : ∀ y, y ≠ x -> ((x, s3.heap.objs.size + 1) :: cl).lookup y = cl.lookup y := fun y hy => by
    have : (y == x) = false := by simpa using hy
    rw [List.lookup_cons, this]
  -- the block's context
  generalize hX' : jk X scope cl s3.heap.objs.size s3 H3 fp N' x = X'
  have hXp : X'.prog = X.prog := by rw [<- hX']; rfl
  have hXw : X'.w = X.w := by rw [<- hX']; rfl
  have hXK : X'.K = X.K := by rw [<- hX']; rfl
  have hXA : X'.A = X.A := by rw [<- hX']; rfl
  have hXe : X'.env = kX scope cl s3.heap.objs.size X.env x := by rw [<- hX']; rfl
  have hXc : X'.calm = true := by rw [<- hX']; exact hc
  have hXx : X'.xe = fun _ _ => False := by rw [<- hX']; exact hxe
  have hXf : X'.fs = frs X.stack := by rw [<- hX']; rfl
  have hXex : X'.ex = fp := by rw [<- hX']; rfl
  have hXN : X'.N = N' := by rw [<- hX']; rfl
  have hXs : X'.aQ = s3 := by rw [<- hX']; rfl
  have hXH : X'.bx = H3 := by rw [<- hX']; rfl
  have hXpn : X'.pn = [] := by rw [<- hX']; rfl
  have okX : X'.Ok := by
    rw [<- hX']
    refine ⟨I3.ok.mod, hkind, I3.ok.glob, I3.ok.blt, Nat.le_refl _, fun a b c p q => ?_, fun y hy => ?_, fun y c z p => ?_, I3.ok.hd, I3.ok.frames, .inl rfl, fun b hb => ⟨fpC b hb, fun y c p => ?_⟩,
      I3.bs, Nat.le_trans I3.ok.bsz I3.sz, fun b o p hb => ?_, fun b hb z => ?_, I3.stack, I3.nV⟩
    · rcases cel a c p with ⟨a1, a2⟩ | ⟨a1, a2⟩ <;> rcases cel b c q with ⟨b1, b2⟩ | ⟨b1, b2⟩
      · rw [a1, b1]
      · exact absurd (clt b c b2) (by rw [a2]; exact Nat.not_lt.mpr (Nat.le_succ _))
      · exact absurd (clt a c a2) (by rw [b2]; exact Nat.not_lt.mpr (Nat.le_succ _))
      · exact I3.ok.inj a b c (hcl1 a c a2) (hcl1 b c b2)
    · by_cases yx : y = x
      · exact ⟨_, by rw [yx]; exact hxl⟩
      show ∃ c, ((x, s3.heap.objs.size + 1) :: cl).lookup y = some c
      rw [hol y yx]
      have hy' : (relabel scope X.env).names.lookup y = some .cell \/ (relabel scope X.env).names.lookup y = some .free := hy
      have free : scope.names.lookup y = some .free -> ∃ c, cl.lookup y = some c := fun q => hcl2 y (lookup_mem q)
      rcases hy' with q | q
      · rcases dk q with z | ⟨z, _⟩
        · have m : (y, NameKind.cell) ∈ scope.names.filter (fun y => y.2 == .cell) := List.mem_filter.mpr ⟨lookup_mem z, rfl⟩
          rw [hcell] at m
          simp only [List.mem_singleton] at m
          cases m
          exact absurd rfl yx
        · exact free z
      · rcases dk q with z | ⟨_, z⟩
        · exact free z
        · cases z
    · rcases cel y c p with ⟨_, e⟩ | ⟨yx, _⟩
      · rw [e]; exact Nat.le_succ _
      · have z' : (y == x) = true := z
        exact absurd (by simpa using z') yx
    · rcases cel y c p with ⟨_, e⟩ | ⟨_, e⟩
      · rw [e]; exact (fpL b hb).symm
      · exact (f2 b hb).2.2.2.2.1 y c (hcl1 y c e)
    · rcases (f2 b hb).2.2.2.1 with z | z
      · exact I3.ok.rW b o p z
      · exact absurd (Nat.lt_of_lt_of_le (Heap.lt_size p) (Nat.le_trans I3.ok.bsz z)) (Nat.lt_irrefl _)
    · rcases List.mem_cons.mp (I3.jx b z) with q | q
      · exact (f2 b hb).2.1 q
      · exact (f2 b hb).2.2.1 q
  have I4 : ∀ tk, Inv X' [] (eS ix σ) H3 { s3 with heap := h₁, toks := tk } := fun tk => by
    have hloc := I3.loc
    refine ⟨okX, by rw [hXs], I3.bare, ?_, ⟨fun _ => none, by rw [hXe]; exact hns₁, fun i y v e1 e2 e3 => ?_⟩, fun y c p => ?_, ?_, fun y c p => ?_, fun p hp => ?_, ?_, ?_⟩
    · rw [hXf, hXex, hXH, hXs]; exact Un.kept keep4
    · rw [hXN, hN] at e1
      cases i with
      | zero => simp [eS] at e2
      | succ j =>
        have e1' : (ix.map fun i => (X.N[i]?).getD x)[j]? = some y := by simpa using e1
        have e2' : (ix.map fun i => (σ[i]?).join)[j]? = some (some v) := by simpa [eS] using e2
        rw [List.getElem?_map] at e1' e2'
        cases hj : ix[j]? with
        | none => rw [hj] at e1'; cases e1'
        | some i0 =>
          rw [hj] at e1' e2'
          have e1'' : (X.N[i0]?).getD x = y := by simpa using e1'
          have e2'' : (σ[i0]?).join = some v := by simpa using e2'
          have hsv : σ[i0]? = some (some v) := by
            cases q : σ[i0]? with
            | none => rw [q] at e2''; cases e2''
            | some z => rw [q] at e2''; have : z = some v := by simpa using e2''
                        rw [this]
          have hlt : i0 < X.N.length := by
            have := (List.getElem?_eq_some_iff.mp hsv).1
            rw [I3.len] at this; exact this
          have hNy : X.N[i0]? = some y := by
            rw [List.getElem?_eq_getElem hlt] at e1'' ⊢
            simpa using e1''
          have hyt : y ∈ N'.tail := by
            rw [hN]
            exact List.mem_of_getElem? (by simpa using e1)
          have hyf := hcap y hyt
          have hyc := outc (y, .free) (lookup_mem hyf) rfl
          obtain ⟨m, hn, hl⟩ := hloc
          obtain ⟨u, r, l⟩ := hl i0 y v hNy hsv (.inr (.inl hyc))
          refine ⟨u, r, ?_⟩
          rcases l with ⟨k1, _⟩ | ⟨_, c, p, z⟩
          · have hyc' : X.env.kindOf y = some .cell := hyc
            rw [k1] at hyc'; cases hyc'
          · obtain ⟨c', p'⟩ := hcl2 y (lookup_mem hyf)
            have pc : c' = c := by
              have := hcl1 y c' p'
              rw [p] at this; cases this; rfl
            subst pc
            have hxn : x ∉ N'.tail := by
              have nd := hnd
              rw [hN] at nd ⊢
              exact (List.nodup_cons.mp nd).1
            have yx : y ≠ x := fun z => hxn (z ▸ hyt)
            refine .inr ⟨.inl ?_, c', by rw [hXe]; exact (hol y yx).trans p', ?_⟩
            · rw [hXe]; exact cO I3.ok.kind hyf hyc
            · obtain ⟨o, q1, q2⟩ := z
              exact ⟨o, keep4 c' o q1, q2⟩
    · rw [hXe] at p
      rcases cel y c p with ⟨_, e⟩ | ⟨_, e⟩
      · rw [e]; exact ⟨none, hce₁⟩
      · obtain ⟨v, o, q1, q2⟩ := I3.cell y c (hcl1 y c e)
        exact ⟨v, o, keep4 c o q1, q2⟩
    · rw [hXe]; exact I3.hok.fresh (Nat.le_refl _)
    · rw [hXe] at p
      rcases cel y c p with ⟨_, e⟩ | ⟨_, e⟩
      · rw [e]; exact I3.hok.fresh (Nat.le_succ _)
      · exact I3.gF y c (hcl1 y c e)
    · rw [hXpn] at hp; cases hp
    · rw [hXp, hXw]; exact I3.hok.kept keep4
    · rw [hXN, hN]; simp [eS]
  -- the loop
  have stat : ∀ {H' : Hp}, (∀ b ∈ fp, H' b = none) -> ∀ b ∈ fp, oM X' [] H' b := fun hn b hb => by
    refine ⟨hn b hb, by rw [hXe]; exact fpC b hb, ?_, .inl (by rw [hXex]; exact hb), fun y c p => ?_, fun p hp => by rw [hXpn] at hp; cases hp⟩
    · rw [hXf]; intro z
      rcases List.mem_cons.mp (I3.jx b z) with q | q
      · exact (f2 b hb).2.1 q
      · exact (f2 b hb).2.2.1 q
    · rw [hXe] at p
      rcases cel y c p with ⟨_, e⟩ | ⟨_, e⟩
      · rw [e]; exact (fpL b hb).symm
      · exact (f2 b hb).2.2.2.2.1 y c (hcl1 y c e)
  have fin : ∀ {H5 : Hp} {s5 : Shared} {σ5 : St}, Inv X' [] σ5 H5 s5 -> Q (.ref acc) H5 -> compPost (model X.prog X.w) X.A X.xe none (EP X pins σ Q) (.ref acc) s3.heap.objs.size (.ok .next) s5 := fun {H5 s5 σ5} I5 q => by
    obtain ⟨m, hn, _⟩ := I5.loc
    rw [hXe] at hn
    refine ⟨m, hn, fun h' sb => ?_⟩
    have kb : ∀ b o, b ≠ s3.heap.objs.size -> s5.heap.get? b = some o -> h'.get? b = some o := fun b o hb z => sb.extBut b o hb z
    have u5 := I5.base
    rw [hXf, hXex, hXH, hXs] at u5
    have nC : ∀ b o, s3.heap.get? b = some o -> b ≠ s3.heap.objs.size := fun b o z => Nat.ne_of_lt (Heap.lt_size z)
    have un : Un (frs X.stack) fp H3 H5 s3.heap h' := ⟨fun b o z n a c => kb b o (nC b o z) (u5.keep b o z n a c), fun b o z n a c => by
      obtain ⟨sl, y⟩ := u5.slot b o z n a c
      exact ⟨sl, kb b _ (nC b o z) y⟩, u5.free, fun b o z c => by
      obtain ⟨o', y⟩ := u5.there b o z c
      exact ⟨o', kb b _ (nC b o z) y⟩, u5.ly, u5.la, u5.lD⟩
    have fr : H5 s3.heap.objs.size = none := by have := I5.free; rw [hXe] at this; exact this
    have hok5 := I5.hok
    rw [hXp, hXw] at hok5
    have hos : s5.os = s3.os := by have := I5.os; rw [hXs] at this; exact this
    refine ⟨.ref acc, H5, I3.vi (s' := { s5 with heap := h' }) (ch := fp) hos un (hok5.sameBut fr kb) I5.bare (fun b hb => ?_), rfl, q⟩
    obtain ⟨g0, g1, g2, g3, g4, g5⟩ := f2 b hb
    exact ⟨g3, g1, g4, g5⟩
  have loop : ∀ tk, codeAny (model X.prog X.w) X.A (.compLoop (.ListComp elt [⟨.Name x px, iter, ifs, 0⟩] scope pos) 0 (.ref it) (.ref acc) (kX scope cl s3.heap.objs.size X.env x))
      (compPost (model X.prog X.w) X.A X.xe none (EP X pins σ Q) (.ref acc) s3.heap.objs.size) { s3 with heap := h₁, toks := tk } := fun tk => by
    refine jU (fun n s' => ∃ i ys σ' H', Inv X' [] σ' H' s' /\ (∃ v, σ' = (eS ix σ).set 0 v) /\ tn i s'.heap /\ (∀ b ∈ fp, H' b = none) /\ W i n ys H') (fun n s5 h5 => ?_) m0
      ⟨0, [], eS ix σ, H3, I4 tk, ⟨none, rfl⟩, T.keep _ _ _ st3' fun b _ o q => keep4 b o q, fpn, w0⟩
    obtain ⟨i, ys, σ5, H5, I5, ⟨v5, hσ⟩, st5, fr5, w5⟩ := h5
    rcases turn i n ys H5 w5 with ⟨stop, q⟩ | ⟨go, step⟩
    · have d := T.done X' hXp hXw hXK hXc i [] s5 σ5 H5 (fun _ _ => False) I5 (stat fr5) st5 stop
      rw [hXA] at d
      refine thn d fun r s6 ⟨hr, I6⟩ => ?_
      subst hr
      exact fin I6 q
    · have d := T.item X' hXp hXw hXK hXc i [] s5 σ5 H5 (fun _ _ => False) I5 (stat fr5) st5 go
      rw [hXA] at d
      refine thn d fun r s6 ⟨u, hr, h6⟩ => ?_
      subst hr
      refine thn h6 fun _ s7 ⟨z, H7, I7, r7, y7, st7, fr7⟩ => ?_
      have I7' := I7.pinned (stat fr7) (T.obj _ _ st7)
      have again : ∀ {H9 : Hp} {s9 : Shared} {ys9 : List V} {v9 : Option V}, Inv X' ([] ++ jr fp s7.heap) ((eS ix σ).set 0 v9) H9 s9 -> (∃ m', m' < n /\ W (i + 1) m' ys9 H9) -> ∃ m', m' < n /\ ∃ i ys σ' H', Inv X' [] σ' H' s9 /\ (∃ v, σ' = (eS ix σ).set 0 v) /\ tn i s9.heap /\ (∀ b ∈ fp, H' b = none) /\ W i m' ys H' := fun {H9 s9 ys9 v9} I9 ⟨m', hm, w9⟩ => by
        refine ⟨m', hm, i + 1, ys9, _, H9, I9.gL, ⟨v9, rfl⟩, T.keep _ _ _ st7 fun b hb o e => (I9.pin (b, o) (List.mem_append_right _ (List.mem_append_right _ (dH hb e)))).1, fun b hb => ?_, w9⟩
        obtain ⟨o, e, _⟩ := T.obj _ _ st7 b hb
        exact (I9.pin (b, o) (List.mem_append_right _ (List.mem_append_right _ (dH hb e)))).2.1
      have es : σ5.set 0 (some z) = (eS ix σ).set 0 (some z) := by rw [hσ]; simp [List.set_set]
      have ht' := ht cl s3.heap.objs.size s3 H3 fp
      have he' := he cl s3.heap.objs.size s3 H3 fp
      rw [hX'] at ht' he'
      rw [<- hXe]
      refine wpAny_assign_Name (dR (X := X') (i := 0) I7' (by rw [hXN]; exact hnd) (by rw [hXN, hN]; rfl) (.inr ?_) r7 (fun s8 I8 => ?_) (.inl ?_))
      · rw [hXe]; exact d_ hx
      · rw [es] at I8
        have a1 := ht' _ s8 _ H7 _ I8 (step z H7 y7)
        rw [hXp, hXw, hXA, hXx] at a1
        refine thn a1 fun b s9 ⟨H9, I9, q9⟩ => ?_
        cases b with
        | false => exact again I9 q9
        | true =>
          have a2 := he' _ s9 _ H9 _ I9 q9
          rw [hXp, hXw, hXA, hXx] at a2
          refine thn a2 fun yv s10 ⟨y, H10, I10, r10, q1, q2, q3⟩ => ?_
          have a3 := l0 (X := X') _ s10 _ H10 (.ref acc) [y] (.ref acc) [yv] (fun _ Hq => ∃ m', m' < n /\ W (i + 1) m' (ys ++ [y]) Hq) I10 rfl (.cons r10 .nil) ⟨acc, ys, y, rfl, rfl, q1, q2, q3⟩
          rw [hXp, hXw, hXA, hXx] at a3
          exact thn a3 fun _ s11 ⟨_, H11, I11, _, q11⟩ => again I11 q11
      · rw [<- hX']; exact beq_self_eq_true x
  refine codeAny_compStart_list (loop _) ?_
  exact T.self _ 0 _ _ _ (T.keep _ _ _ st3' fun b _ o q => keep4 b o q) (loop _)
end L2
namespace L2.FE
open PySem PySem.Spec PyProof.Rows
variable {X : Cx} {g : GG}
theorem pw {nl : NL} [iW nl] {elt iter : Expr} {x : Str} {px : Pos} {ifs : List Expr} {scope osc : Scope} {pos : Pos} {mi : MI} {tt : MT} {te : ME} (ix : List Nat) (N' : List Str)
    (hxe : X.xe = fun _ _ => False) (hc : X.calm = true) (ho : X.env.scope = osc) (hN : N' = x :: ix.map fun i => (X.N[i]?).getD x) (hnd : N'.Nodup)
    (hall : (∀ y ∈ scope.names, y.2 = .free -> osc.names.lookup y.1 = some .cell) /\ scope.names.filter (fun y => y.2 == .cell) = [(x, .cell)] /\ scope.kind = .function /\ (∀ y ∈ scope.names, y.2 = .local -> scope.names.lookup y.1 = some .local) /\ scope.names.lookup x = some .cell /\ (∀ y ∈ N'.tail, scope.names.lookup y = some .free))
    (hi : PI X (.Name x px) iter (tMI X.K g E00 mi))
    (ht : ∀ cl C aQ bx fp, PTs (jk X scope cl C aQ bx fp N' x) ifs (tMT X.K g E00 tt))
    (he : ∀ cl C aQ bx fp, PE (jk X scope cl C aQ bx fp N' x) elt (tM X.K g E00 te))
    (hs : ∀ x, foldedSetIterable iter X.env x = pure x := by intro _; rfl) :
    PE X (.ListComp elt [⟨.Name x px, iter, ifs, 0⟩] scope pos) (tM X.K g E00 (cL nl mi ix tt te)) := by
  exact PE.imp (PE.frz (tY ix N' hxe hc ho hN hnd hall hi ht he hs)) fun σ H Q t => oG (fun _ _ z => z) t
theorem wV {K : PySem.W.Frag} {ε : EE} {mi : MI} {ix : List Nat} {tt : TT} {te : TE} {σ : St} {H : Hp} {Q : VK} (t : uh (tMI K g ε mi) ix tt te σ H Q) : p4 (tMI K g ε mi) 1 ix (ik 0) tt te σ H Q := by
  obtain ⟨α, env, h, s, w⟩ := t
  refine ⟨α, env, h, s, w.mono fun sr h1 _ z J H' α' e hr rd acc ha => ?_⟩
  obtain ⟨W, w0, st⟩ := z J H' α' e hr rd acc ha
  refine ⟨W, w0, fun i m ys H1 hw => (st i m ys H1 hw).imp id fun ⟨a, b⟩ => ⟨a, fun σ0 x H2 hc hy => ?_⟩⟩
  obtain ⟨ts, tl, rfl⟩ := hc
  match ts, tl with
  | [t0], _ => exact ⟨⟨[some x], rfl, rfl⟩, b x H2 hy⟩
theorem fM {nl : NL} [iW nl] {elt iter : Expr} {x : Str} {px : Pos} {ifs : List Expr} {scope osc : Scope} {pos : Pos} {mi : MI} {tt : MT} {te : ME} (ix : List Nat) (N' : List Str)
    (hxe : X.xe = fun _ _ => False) (hc : X.calm = true) (ho : X.env.scope = osc) (hN : N' = x :: ix.map fun i => (X.N[i]?).getD ("" : Str)) (hnd : N'.Nodup)
    (hall : (∀ y ∈ scope.names, y.2 = .free -> osc.names.lookup y.1 = some .cell) /\ (∀ y ∈ scope.names, y.2 ≠ .cell) /\ scope.kind = .function /\ (∀ y ∈ scope.names, y.2 = .local -> scope.names.lookup y.1 = some .local) /\ scope.names.lookup x = some .local /\ (∀ y ∈ N'.tail, scope.names.lookup y = some .free))
    (hi : PI X (.Name x px) iter (tMI X.K g E00 mi))
    (ht : ∀ cl C aQ bx fp, PTs (ff X scope cl C aQ bx fp N') ifs (tMT X.K g E00 tt))
    (he : ∀ cl C aQ bx fp, PE (ff X scope cl C aQ bx fp N') elt (tM X.K g E00 te))
    (hs : ∀ x, foldedSetIterable iter X.env x = pure x := by intro _; rfl) :
    PE X (.ListComp elt [⟨.Name x px, iter, ifs, 0⟩] scope pos) (tM X.K g E00 (cL nl mi ix tt te)) := by
  refine PE.imp (PE.frz (tB (tgr := ik 0) ix [x] N' hxe hc ho hN hnd ⟨hall.1, hall.2.1, hall.2.2.1, hall.2.2.2.1, fun y hy => hall.2.2.2.2.2 y (by rw [hN] at hy ⊢; exact hy)⟩ hi (fun cl C aQ bx fp => bE (X := ff X scope cl C aQ bx fp N') hnd (show N'[0]? = some x by rw [hN]; rfl) (.inl (lookup_relabel_local hall.2.2.2.2.1)) (.inr (lookup_relabel_local hall.2.2.2.2.1))) ht he hs)) fun σ H Q t => ?_
  exact wV (oG (fun _ _ z => z) t)
end L2.FE
namespace L2
open PySem PySem.Spec PyProof.Rows
noncomputable def j_ (h : Heap) (d : Addr) (es : Array DictEntry) (ep : Nat) : Prop := ∃ q, h.get? d = some q /\ q.ExactDict /\ q.data = .dict es ep
section
variable {prog : Program} {w : World} {A : Around} {E : Value -> Shared -> Prop} {s : Shared} {it d : Addr} {i ep : Nat} {es : Array DictEntry}
theorem j_.typeIs (x : j_ s.heap d es ep) : s.TypeIs (.ref d) "dict" := let ⟨q, a, b, _⟩ := x; ⟨q, a, b.1⟩
theorem j_.keep {h h' : Heap} (x : j_ h d es ep) (k : ∀ q, h.get? d = some q -> h'.get? d = some q) : j_ h' d es ep := let ⟨q, a, b⟩ := x; ⟨q, k q a, b⟩
theorem j_.lt {h : Heap} (x : j_ h d es ep) : d < h.objs.size := let ⟨_, a, _⟩ := x; Heap.lt_size a
theorem tS {Q : Value -> Shared -> Prop} (lo : (d == sysModules) = false) (x : j_ s.heap d es ep)
    (hQ : Q (.ref s.heap.objs.size) { s with heap := s.heap.push { cls := .type "dict_keyiterator", data := .fields #[.ref d, .int 0 0, .int es.size 0, .int ep 0] } }) : wpAny (model prog w) A (pyIter (.ref d)) Q E s := by
  obtain ⟨q, a, _, c⟩ := id x
  have T := x.typeIs
  refine wpAny_pyIter_slot T F.slot_dict_iter (wpAny_call_entry F.slot_dict_iter T F.entry_dict_iter (by
    unfold Builtin.«dict.__iter__»; refine wpAny_bind ?_; unfold Builtin.Dict.dictSlotNone
    refine wpAny_bind (wpAny_notOrdered_dict T ?_); show wpAny _ _ (pure (Value.ref d)) _ _ s; refine wpAny_pure ?_
    show wpAny _ _ (Builtin.Dict.showsAll d >>= _) _ _ s; unfold Builtin.Dict.showsAll; rw [if_neg (by rw [lo]; exact Bool.false_ne_true)]
    refine wpAny_bind (wpAny_pure (wpAny_bind (wpAny_dictEntries a c (wpAny_bind (wpAny_dictEpoch a c (wpAny_bind (wpAny_newObj_type (wpAny_pure ⟨_, rfl, "dict_keyiterator", _, ⟨_, Heap.get?_push_size _ rfl, rfl⟩, F.slot_dict_keyiterator_next.lookup, ?_⟩))))))))
    simpa [rawInt] using hQ) (F.args_dict_iter_1 _))
theorem uD {Q : Option Value -> Shared -> Prop} (hi : s.heap.IsKeyIter it d i es.size ep) (x : j_ s.heap d es ep) (lt : i < es.size)
    (hQ : ∀ h', h'.IsKeyIter it d (i + 1) es.size ep -> Heap.SameBut it s.heap h' -> Q (some es[i].key) { s with heap := h' }) : wpAny (model prog w) A (pyNext (.ref it)) Q E s := by
  obtain ⟨p, p1, p2, p3⟩ := id hi
  obtain ⟨q, a, _, c⟩ := id x
  have own : Builtin.Dict_items.ownsTuple "dict_keyiterator" = false := by decide
  unfold pyNext
  refine wpAny_bind (wpAny_attempt (wpAny_callSpecial?_slot (name := Str.ofString "__next__") hi.typeIs F.slot_dict_keyiterator_next (wpAny_call_entry F.slot_dict_keyiterator_next hi.typeIs F.entry_dict_keyiterator_next ?_ (F.args_dict_keyiterator_next_1 _))))
  refine wpAny_bind (wpAny_pure (wpAny_bind (wpAny_bind ?_)))
  first | refine wpAny_bind (wpAny_typeNameOfWhole_keyiter hi.typeIs (wpAny_pure (wpAny_bind (wpAny_fieldsOf p1 p3 ?_)))) | refine wpAny_bind (wpAny_typeNameOf_keyiter hi.typeIs (wpAny_pure (wpAny_bind (wpAny_fieldsOf p1 p3 ?_))))
  simp only [own, Bool.false_eq_true, if_false]; show wpAny _ _ (if (Value.ref d == Value.none) = true then _ else _) _ _ s
  rw [if_neg (show ¬ ((Value.ref d == Value.none) = true) from Bool.false_ne_true)]; refine wpAny_bind (wpAny_pure (wpAny_bind (wpAny_dictEntries a c ?_)))
  rw [if_neg (by simp)]; refine wpAny_bind (wpAny_pure (wpAny_bind (wpAny_dictEpoch a c ?_))); rw [if_neg (by simp)]; refine wpAny_pure ?_
  simp only [show ¬ ((i : Int) < 0) from by omega, if_false, Int.toNat_natCast, Array.getElem?_eq_getElem lt]; refine wpAny_bind ?_
  first | refine wpAny_bind (wpAny_typeNameOfWhole_keyiter hi.typeIs (wpAny_pure (wpAny_bind (wpAny_isOneOf_keyiter hi.typeIs ?_)))) | refine wpAny_bind (wpAny_typeNameOf_keyiter hi.typeIs (wpAny_pure (wpAny_bind (wpAny_isOneOf_keyiter hi.typeIs ?_))))
  show wpAny _ _ (setField (.ref it) 1 (rawInt ((i : Int) + 1)) >>= _) _ _ s; refine wpAny_bind (wpAny_setField p1 p3 (by simp) ?_)
  have hi' : (s.heap.update it (Obj.mapFields (·.setIfInBounds 1 (rawInt ((i : Int) + 1))))).IsKeyIter it d (i + 1) es.size ep := ⟨_, Heap.get?_update_self _ p1 (Obj.isFreed_of_fields (Obj.data_mapFields p3 _)), (Obj.cls_mapFields ..).trans p2, by rw [Obj.data_mapFields p3]; simp [rawInt]⟩
  refine wpAny_bind (wpAny_holding (wpAny_bind (wpAny_isOneOf_keyiter (s := { s with heap := s.heap.update it (Obj.mapFields (·.setIfInBounds 1 (rawInt ((i : Int) + 1)))) }) hi'.typeIs ?_)))
  show wpAny _ _ (pure es[i].key) _ _ _; exact wpAny_pure (wpAny_pure ⟨_, rfl, wpAny_pure (hQ _ hi' (Heap.SameBut.update ..))⟩)
theorem wA {Q : Option Value -> Shared -> Prop} (hh : A.handled = none) (hi : s.heap.IsKeyIter it d i es.size ep) (x : j_ s.heap d es ep) (ge : es.size <= i)
    (hQ : ∀ h', Heap.ExtBut it s.heap h' -> Q none { s with heap := h' }) : wpAny (model prog w) A (pyNext (.ref it)) Q E s := by
  obtain ⟨p, p1, p2, p3⟩ := id hi
  obtain ⟨q, a, _, c⟩ := id x
  have own : Builtin.Dict_items.ownsTuple "dict_keyiterator" = false := by decide
  unfold pyNext
  refine wpAny_bind (wpAny_attempt (wpAny_callSpecial?_slot (name := Str.ofString "__next__") hi.typeIs F.slot_dict_keyiterator_next (wpAny_call_entry F.slot_dict_keyiterator_next hi.typeIs F.entry_dict_keyiterator_next ?_ (F.args_dict_keyiterator_next_1 _))))
  refine wpAny_bind (wpAny_pure (wpAny_bind (wpAny_bind ?_)))
  first | refine wpAny_bind (wpAny_typeNameOfWhole_keyiter hi.typeIs (wpAny_pure (wpAny_bind (wpAny_fieldsOf p1 p3 ?_)))) | refine wpAny_bind (wpAny_typeNameOf_keyiter hi.typeIs (wpAny_pure (wpAny_bind (wpAny_fieldsOf p1 p3 ?_))))
  simp only [own, Bool.false_eq_true, if_false]; show wpAny _ _ (if (Value.ref d == Value.none) = true then _ else _) _ _ s
  rw [if_neg (show ¬ ((Value.ref d == Value.none) = true) from Bool.false_ne_true)]; refine wpAny_bind (wpAny_pure (wpAny_bind (wpAny_dictEntries a c ?_)))
  rw [if_neg (by simp)]; refine wpAny_bind (wpAny_pure (wpAny_bind (wpAny_dictEpoch a c ?_))); rw [if_neg (by simp)]; refine wpAny_pure ?_
  simp only [show ¬ ((i : Int) < 0) from by omega, if_false, Int.toNat_natCast, Array.getElem?_eq_none ge]; refine wpAny_bind ?_
  first | refine wpAny_bind (wpAny_typeNameOfWhole_keyiter hi.typeIs (wpAny_pure ?_)) | refine wpAny_bind (wpAny_typeNameOf_keyiter hi.typeIs (wpAny_pure ?_))
  show wpAny _ _ (setField (.ref it) 0 .none >>= _) _ _ s; refine wpAny_bind (wpAny_setField p1 p3 (by simp) ?_)
  show wpAny _ _ (newExc (.type "StopIteration") [] >>= _) _ _ _; refine wpAny_bind ?_; simp only [newExc, newTuple]
  refine wpAny_bind (wpAny_newObj_type (wpAny_bind (m := firstArgMember _ _) (wpAny_of_eq (a := Value.none) (by first | rfl | (simp only [firstArgMember]; rfl)) (wpAny_newObj_type ?_ (by size_fits)))) (by size_fits))
  simp only [raiseNew]; refine wpAny_bind (wpAny_handled ?_); rw [show A.in1.handled = none from hh]
  refine wpAny_bind (wpAny_pure (wpAny_throw ?_)); refine wpAny_bind (wpAny_isInstance (T := "StopIteration") (b := true) ⟨_, Heap.get?_push_size _ rfl, rfl⟩ isSubtype_stop ?_)
  exact wpAny_pure (hQ _ (((Heap.SameBut.update ..).extBut.push _).push _))
theorem rJ (hh : A.handled = none) (I : Addr) (ne : d ≠ I) : Walks prog w A I [I, d] [I] es.size (fun j v => ∃ e, es[j]? = some e /\ v = e.key) (fun j h => h.IsKeyIter I d j es.size ep /\ j_ h d es ep) where
  sub := fun b hb => by simp at hb; simp [hb]
  frame := fun _ _ _ st hk => ⟨st.1.at fun o e => hk I (by simp) o e, st.2.keep fun o e => hk d (by simp) o e⟩
  item := fun j s Q E hj st hQ => uD st.1 st.2 hj fun h' a b => hQ _ h' s.toks ⟨_, Array.getElem?_eq_getElem hj, rfl⟩ ⟨a, st.2.keep fun o e => b.extBut d o ne e⟩ fun c o hc e => b.extBut c o (fun z => hc (by simp [z])) e
  done := fun s Q E st hQ => wA hh st.1 st.2 (Nat.le_refl _) fun h' a => hQ h' s.toks fun c o hc e => a c o (fun z => hc (by simp [z])) e
  self := fun _ _ _ _ st hQ => wpAny_pyIter_keyiter st.1 hQ
theorem vA (lo : (d == sysModules) = false) : PySem.W.KdlSrc prog w "dict" d d es.size (fun j v => ∃ e, es[j]? = some e /\ v = e.key) (fun h => j_ h d es ep) where
  type := fun _ x => x.typeIs
  there := fun _ x => ⟨x.lt, x.lt⟩
  keep := fun _ _ x k => x.keep fun o e => k d (.inl rfl) o e
  notList := by decide
  notTuple := by decide
  hint := fun _ _ _ _ x hq => PySem.W.kdl_hint_dict x.typeIs hq
  iter := fun _ _ hh x => ⟨_, _, (fun _ _ hq => tS lo x hq), rJ hh _ (Nat.ne_of_lt x.lt), ⟨⟨_, Heap.get?_push_size _ rfl, rfl, rfl⟩, x.keep fun o e => Heap.get?_push_of_some _ e⟩⟩
end
theorem lO {X : Cx} (hc : X.calm = true) : bL X (.type "list") (fun xs H Q => ∃ p kvs, xs = [.ref p] /\ H p = some (.dT kvs) /\ ∀ l bs, H l = none -> Paired (fun (kv : List Key × V) b => H b = some (.tup (kv.1.map kV))) kvs bs -> Q (.ref l) (upd H l (.lst (bs.map V.ref)))) := by
  intro pins s σ H xs us Q I r h
  obtain ⟨p, kvs, rfl, hp, q⟩ := h
  obtain ⟨u, rfl, rx⟩ := vals1 r
  cases rx
  obtain ⟨z, lo, ws, rel, ob, es, ep, h1, h2, h3, h4, h5⟩ := I.hok p _ hp
  have sz : es.size = ws.length := by rw [<- Array.length_toList, h4, List.length_map]
  have zz : kvs.length = ws.length := rel.length
  refine PySem.W.kdl_call (vA (es := es) (ep := ep) lo) (I.ok.hd hc) ⟨ob, h1, h2, h3⟩ (by rw [sz, <- zz]; exact z) fun h' tk acc c kp e hi => ?_
  have pb : Paired (fun (kv : List Key × V) b => H b = some (.tup (kv.1.map kV))) kvs (ws.map fun x => x.2.1) := by
    clear hi h5 h4 zz sz z q hp
    induction rel with
    | nil => exact .nil
    | cons a _ ih => exact .cons a.2.1 ih
  refine ⟨.ref s.heap.objs.size, _, I.laid (t' := tk) kp (Nat.le_refl _) (show bO X.prog X.w _ h' _ (.lst _) from ⟨?_, acc.toList, c, ?_, by simpa using e⟩), rfl, q _ _ (I.hok.fresh (Nat.le_refl _)) pb⟩
  · rw [List.length_map, List.length_map, <- zz]; exact z
  · refine FE.pq _ _ (by rw [Array.length_toList, hi.1, List.length_map, List.length_map, sz]) fun j u hj => ?_
    obtain ⟨en, e1, e2⟩ := hi.2 j u (by rw [<- Array.getElem?_toList]; exact hj)
    rw [<- Array.getElem?_toList, h4, List.getElem?_map] at e1
    cases ej : ws[j]? with
    | none => rw [ej] at e1; cases e1
    | some y =>
      rw [ej] at e1
      cases e1
      refine ⟨.ref y.2.1, by rw [List.getElem?_map, List.getElem?_map, ej]; rfl, ?_⟩
      rw [e2]; rfl
end L2
namespace L2.FE
open PySem PySem.Spec PyProof.Rows
noncomputable def unK : Key -> D
  | .inl i => .int i
  | .inr x => .str x
noncomputable def tupK (k : List Key) : D := .tup (k.map unK)
noncomputable def iz (nl : NL) : List D -> Hh -> R D := fun ds h => match ds with
  | [.ref n] => match cM h n with
    | some kvs => nl (kvs.map fun kv => tupK kv.1) h
    | none => .bad
  | _ => .bad
theorem nk {K : PySem.W.Frag} {g : GG} {α : List Addr} {H : Hp} : ∀ k : List Key, aw K g α H (k.map unK) (k.map kV)
  | [] => .nil
  | .inl i :: r => .cons (.int i) (nk r)
  | .inr x :: r => .cons (.str x) (nk r)
theorem oY {K : PySem.W.Frag} {g : GG} {α : List Addr} {H : Hp} : ∀ {kvs : List (List Key × D)} {kws : List (List Key × V)} {bs : List Addr}, PDT K g α H kvs kws -> Paired (fun (kv : List Key × V) b => H b = some (.tup (kv.1.map kV))) kws bs -> aw K g α H (kvs.map fun kv => tupK kv.1) (bs.map V.ref)
  | _, _, _, .nil, .nil => .nil
  | _, _, _, .cons c r, .cons a t => .cons (.tup a (by rw [c.1]; exact nk _)) (oY r t)
theorem uP {K : PySem.W.Frag} {g : GG} {ε : EE} {nl : NL} [iW nl] : nW K g ε (iz nl) (fun xs H Q => ∃ p kvs, xs = [.ref p] /\ H p = some (.dT kvs) /\ ∀ l bs, H l = none -> Paired (fun (kv : List Key × V) b => H b = some (.tup (kv.1.map kV))) kvs bs -> iG Q (.ref l) (upd H l (.lst (bs.map V.ref)))) := by
  intro α H h a x Q r ra w
  obtain ⟨d, v, rfl, rfl, rd⟩ := nF (f := iz nl) (fun d _ _ _ => by cases d <;> rfl) (fun _ => rfl) ra w
  unfold iz at w
  cases rd with
  | @ref n p hp =>
    simp only at w
    cases e : cM h n with
    | none => rw [e] at w; exact w.elim
    | some kvs =>
      rw [e] at w
      obtain ⟨kws, hd, rs⟩ := r.dit e hp
      exact ⟨p, kws, rfl, hd, fun l bs hl pb => NL.post w r (oY rs pb) hl⟩
  | _ => exact w.elim
noncomputable def jN : D -> D -> D -> Hh -> R D := fun o i x h => match o, jJ i with
  | .ref n, some k => match cM h n with
    | some kvs => .ok ((m8 kvs k).getD x) h
    | none => .bad
  | _, _ => .bad
noncomputable def fW (mo mi mx : ME) : ME := fun env h => (mo env h).bind fun o h1 => match o with
  | .ref n => match cM h1 n with
    | some _ => (mi env h1).bind fun i h2 => (mx env h2).bind fun x h3 => jN o i x h3
    | none => .bad
  | _ => .bad
section
variable {X : Cx} {g : GG} {ε : EE} {o e f : Expr} {mo me mf : ME} {apos cpos : Pos}
theorem ou (hu : X.A.units + 1 < cLine) (ho : PE X o (tM X.K g ε mo)) (he : PE X e (tM X.K g ε me)) (hf : PE X f (tM X.K g ε mf)) (m : M2 X o "get" apos e f cpos) : PE X (.Call (.Attribute o "get" apos) [e, f] [] cpos) (tM X.K g ε (fW mo me mf)) :=
  PE.imp (tj hu ho he hf m) fun σ H Q ⟨α, env, h, s, w⟩ => tM.use s w.bind fun d1 h1 v1 H1 α1 e1 s1 r1 w1 => by
    cases r1 with
    | @ref n p hp =>
      simp only at w1
      cases ed : cM h1 n with
      | none => rw [ed] at w1; exact w1.elim
      | some kvs0 =>
        rw [ed] at w1
        obtain ⟨kws0, hd0, _⟩ := s1.heap.dit ed hp
        refine ⟨p, rfl, .inr ⟨kws0, .inl hd0⟩, ?_⟩
        refine tM.use s1 (w1.ext e1).bind fun d2 h2 v2 H2 α2 e2 s2 r2 w2 => tM.use s2 (w2.ext e2).bind fun d3 h3 v3 H3 α3 e3 s3 r3 w3 => ?_
        unfold jN at w3
        cases ek : jJ d2 with
        | none => rw [ek] at w3; exact w3.elim
        | some k =>
          rw [ek] at w3
          simp only at w3
          cases ed3 : cM h3 n with
          | none => rw [ed3] at w3; exact w3.elim
          | some kvs =>
            rw [ed3] at w3
            have hp3 : α3[n]? = some p := (e2.trans e3).toEx0.get hp
            obtain ⟨kws, hd, rs⟩ := s3.heap.dit ed3 hp3
            obtain ⟨b', rfl, eb⟩ := nZ (r2.ext e3) ek
            refine ⟨iP kws k, nY.t hd eb, ?_⟩
            have pp := aK.ext (e1.trans (e2.trans e3)) (show aK X.K g α H Q _ h3 from w3)
            rcases rs.val k with ⟨ev, ew⟩ | ⟨d, v, ev, ew, rv⟩
            · rw [ev] at pp; rw [ew]; exact aK.now pp s3.heap r3
            · rw [ev] at pp; rw [ew]; exact aK.now pp s3.heap rv
    | _ => exact w1.elim
end
end L2.FE
namespace L2
open PySem PySem.Spec PyProof.Rows
theorem zc {X : Cx} {pins : List (Addr × Obj)} {σ : St} {H : Hp} {s : Shared} {a b : Addr} {k : List Key} {v : V} {r : Value} {A : Around} {E : Value -> Shared -> Prop} {Q : Unit -> Shared -> Prop} (hu : A.units < cLine) (I : Inv X pins σ H s) (e : H a = some (.dT [])) (eb : H b = some (.tup (k.map kV))) (rv : RelV v r) (h : ∀ s', Inv X pins σ (upd H a (.dT [(k, v)])) s' -> Q () s') :
    wpAny (model X.prog X.w) A (dictSet a (.ref b) r) Q E s := by
  obtain ⟨z, hd, xs, rel, dd⟩ := xo I.hok e
  cases rel
  refine wpAny_dictSet_heap (hsz := Nat.zero_le _) hu (kL I.hok eb) dd fun h' dd' hs => h _ ?_
  obtain ⟨q, es, ep, hq, h2, h3, h4, _, h5⟩ := dd'
  refine mP I (by rw [e]; exact True.intro) hs ⟨q, hq⟩ ⟨by simp [sizeLine_eq], hd, [(k, b, r)], .cons ⟨rfl, ?_, rv⟩ .nil, q, es, ep, hq, h2, h3, h4, h5⟩
  rw [aS (xE eb e (fun z => nomatch z))]
  exact eb
noncomputable def zy (tk tv : TE) : TE := fun σ H Q => ∀ p, H p = none -> tk σ (upd H p (.dT [])) fun x H1 => tv σ H1 fun y H2 => ∃ b k, x = .ref b /\ H2 b = some (.tup (k.map kV)) /\ H2 p = some (.dT []) /\ Q (.ref p) (upd H2 p (.dT [(k, y)]))
theorem ve {X : Cx} {ek ev : Expr} {pos : Pos} {tk tv : TE} (hu : X.A.units < cLine) (hk : PE X ek tk) (hv : PE X ev tv) : PE X (.Dict [some ek] [ev] pos) (zy tk tv) := by
  intro pins s σ H Q I q
  have hn := I.hok.fresh (Nat.le_refl s.heap.objs.size)
  have I1 := I.laid (a := s.heap.objs.size) (o := .dT []) (h' := s.heap.push { cls := .type "dict", data := .dict #[] }) (t' := s.toks) (fun _ _ q => Heap.get?_push_of_some _ q) (Nat.le_refl _) (o5 s.heap I.big)
  rw [arm_eval_Dict, zip_pairTrees [some ek] [ev] X.env pos rfl rfl, dictDisplay_pairs (pairTrees [some ek] [ev] X.env pos) (by simp [pairTrees]) (by simp [pairTrees])]
  refine wpAny_bind (wpAny_standAt (wpAny_bind ?_))
  unfold subDict
  refine wpAny_bind (wpAny_alloc (wpAny_bind (wpAny_holding ?_)))
  rw [if_pos (by simp [pairTrees])]
  refine wpAny_bind (pairTrees_cons_walk (thn (hk pins _ σ _ _ I1 (q _ hn)) fun u s1 ⟨x, H1, J1, rx, q1⟩ => thn (hv pins s1 σ H1 _ J1 q1) fun w2 s2 ⟨y, H2, J2, ry, b, k, ex, eb, ep, q2⟩ => pairTrees_nil_walk ?_))
  subst ex
  cases rx
  refine wpAny_holding ?_
  simp only [List.forIn_cons, List.forIn_nil]
  refine wpAny_bind (wpAny_bind (wpAny_bind (zc hu J2 ep eb ry fun s3 J3 => ?_)))
  repeat (first | refine wpAny_pure ?_ | refine wpAny_bind ?_)
  exact ⟨.ref s.heap.objs.size, _, J3, rfl, q2⟩
end L2
namespace L2.FE
open PySem PySem.Spec PyProof.Rows
theorem un0 {A : Around} (h : A.units + 64 < cLine) : A.units < cLine := by omega
noncomputable def k4 (mk mv : ME) : ME := fun env h => (mk env (h ++ [.dit []])).bind fun i h1 => (mv env h1).bind fun v h2 => match jJ i, cM h2 h.length with
  | some k, some [] => .ok (.ref h.length) (h2.set h.length (.dit [(k, v)]))
  | _, _ => .bad
theorem uN {X : Cx} {g : GG} {ε : EE} {ek ev : Expr} {pos : Pos} {mk mv : ME} (hu : X.A.units < cLine) (hk : PE X ek (tM X.K g ε mk)) (hv : PE X ev (tM X.K g ε mv)) : PE X (.Dict [some ek] [ev] pos) (tM X.K g ε (k4 mk mv)) :=
  PE.imp (ve hu hk hv) fun σ H Q ⟨α, env, h, s, w⟩ p hp => by
    have x := Ext.push (K := X.K) (α := α) (o := .dT []) hp
    have hr : aU X.K g (α ++ [p]) (upd H p (.dT [])) (h ++ [.dit []]) := s.heap.push hp ⟨[], bg, .nil⟩
    have s0 : cU X.K g (α ++ [p]) (upd H p (.dT [])) env σ (h ++ [.dit []]) := s.ext x hr
    have ap : (α ++ [p])[h.length]? = some p := by rw [<- s.heap.len]; simp
    unfold k4 at w
    refine tM.use s0 (w.ext x).bind fun d1 h1 v1 H1 α1 e1 s1 r1 w1 => tM.use s1 (w1.ext e1).bind fun d2 h2 v2 H2 α2 e2 s2 r2 w2 => ?_
    cases ek : jJ d1 with
    | none => rw [ek] at w2; exact w2.elim
    | some k =>
      cases ed : cM h2 h.length with
      | none => rw [ek, ed] at w2; exact w2.elim
      | some kvs =>
        cases kvs with
        | cons _ _ => rw [ek, ed] at w2; exact w2.elim
        | nil =>
          rw [ek, ed] at w2
          have ap2 : α2[h.length]? = some p := (e1.trans e2).toEx0.get ap
          obtain ⟨kws, hd, rs⟩ := s2.heap.dit ed ap2
          cases rs
          obtain ⟨b', rfl, eb⟩ := nZ (r1.ext e2) ek
          refine ⟨b', k, rfl, eb, hd, ?_⟩
          have xw := Ext.write (K := X.K) (o := .dT [(k, v2)]) s2.heap ap2
          have xx := x.trans (e1.trans e2)
          exact (show aK X.K g α H Q _ _ from w2) _ _ α2 (xx.trans xw) (s2.heap.write ap2 ⟨_, bg, .cons ⟨rfl, r2.ext xw⟩ .nil⟩) (.ref ap2)
end L2.FE
namespace FC
open PySem L2 L2.FE
noncomputable def bR : MF := cJ 2 (az (jv (aZ asB (ak dLt (ag 1) (ah iA (aa (ag 0) aq)))) (cb (ak dIx (ag 0) (ag 1))) fK)
    (cb (cC (.int 0))))
noncomputable def cx : MF := cJ 2 (az (aY 1 (ah tT (aa (ag 0) (aa (ak dg (cC (.int 0)) (ag 0)) aq))))
    (cb (ah (bU kd) (aa (ag 1) (aa (ah kE (aa (ak dGe (ag 1) (ak wR (cC (.int 10)) (cC (.int 18)))) aq)) (aa (ak oW (ag 1) (cC (.int 1000003))) aq))))))
noncomputable def c_ : MF := cJ 1 (az (aY 0 (ak oW (ak (bh au) (ag 0) (cC (.int 7919))) (cC (.int 2147483647))))
    (cb (ak oW (ak (bh au) (ak (bh au) (ak (cp au) (ag 0) (ag 0)) (ak (cp au) (cC (.int 48271)) (ag 0))) (cC (.int 12345))) (cC (.int 2147483629)))))
noncomputable def ax : MF := cJ 3 (az (jv (jd (aZ asB (ak dEq (ak dIx (ag 0) (cC (.int 1))) (cC (.int 1)))) (aZ asB (ak dGt (ak dIx (ag 0) (cC (.int 0))) (cC (.int 0))))) (az (aY 2 (ak oW (ak dIx (ag 0) (cC (.int 0))) (ag 1)))
    (az (eE dX (ag 0) (cC (.int 0)) (ak tO (ak dIx (ag 0) (cC (.int 0))) (ag 1)))
    (cb (ag 2)))) fK)
    (az (eE dX (ag 0) (cC (.int 2)) (ah c_ (aa (ak (bh au) (ah c_ (aa (ak dIx (ag 0) (cC (.int 2))) aq)) (cC (.int 7))) aq)))
    (cb (ak oW (ak tO (ak dIx (ag 0) (cC (.int 2))) (cC (.int 64))) (ag 1)))))
noncomputable def dG : MF := gj (fun ds h => ((cJ 5 (az (aY 1 (ah (bU au) (aa (ah cj aq) aq)))
    (az (cR (dF gG (aa (ag 0) aq)) (gN 2) (az (aY 3 (ah (bU kd) aq))
    (az (cR (cK (ag 1)) (gN 4) (eX (jz e_ (ag 3) (aa (cL au (dF gG (aa (ag 0) aq)) [4] (aZ asB (ak (dIn true) (ag 0) (ag 1))) (ak (bh au) (ag 1) (ah cj (aa (ag 0) aq)))) aq))))
    (aY 1 (ag 3)))))
    (cb (ag 1))))) ds h).bind (cu h))
noncomputable def bA : MF := gj (fun ds h => ((cJ 4 (az (aY 1 (cC (.int 0)))
    (az (aY 2 (ah (fV kd) (aa (ah iA (aa (ag 0) aq)) aq)))
    (az (gB 64 (aZ asB (ak dNe (ag 2) (ah (bU au) aq))) (az (aY 1 (ak (bh au) (ag 1) (cC (.int 1))))
    (az (aY 3 (ak dIx (ag 2) (cC (.int 0))))
    (gB 64 (aZ asB (ak (dIn false) (ag 3) (ag 2))) (az (eX (jz gX (ag 2) (aa (ag 3) aq)))
    (aY 3 (ak dIx (ag 0) (ag 3))))))))
    (cb (ag 1)))))) ds h).bind (cu h))
noncomputable def eA : MF := cJ 1 (cb (jV (cUn (sR "int") (ag 0)) (tH (cUn (sR "bool") (ag 0)))))
noncomputable def dP : MF := cJ 3 (cb (jV (ah eA (aa (ag 0) aq)) (mY dLe dLe (ag 1) (ag 0) (ag 2))))
noncomputable def aF : MF := cJ 3 (jv (kR (aZ oz (ah dP (aa (ag 0) (aa (ag 1) (aa (ag 2) aq)))))) By fK)
noncomputable def bM : MF := cJ 6 (az (aY 4 (cIf (aZ asB (ak dGt (ag 2) (cC (.int 0)))) (ak dIx (ak dIx (ag 1) (ak dg (ag 2) (cC (.int 1)))) (ag 3)) (cC (.int 0))))
    (az (aY 5 (cIf (aZ asB (ak dGt (ag 3) (cC (.int 0)))) (ak (cp au) (ak dg (ag 0) (ag 3)) (ak dIx (ak dIx (ag 1) (ag 2)) (ak dg (ag 3) (cC (.int 1))))) (cC (.int 0))))
    (cb (ak (bh au) (ak (bh au) (ag 4) (ak (cp au) (ag 3) (ak dIx (ak dIx (ag 1) (ag 2)) (ag 3)))) (ag 5)))))
noncomputable def cH : MF := cJ 4 (az (aY 1 (ah (fV au) (aa (ak (bh au) (ag 0) (cC (.int 1))) aq)))
    (az (aY 2 (cL au (cK (ag 1)) [1] tt1 (cL au (cK (ag 1)) [0] tt1 (cIf (jd (aZ asB (ak dEq (ag 1) (cC (.int 0)))) (aZ asB (ak dEq (ag 0) (cC (.int 0))))) (cC (.int 1)) (cC (.int 0))))))
    (az (cR (dF h9 (aa (cC (.int 1)) (aa (ak (bh au) (ag 0) (cC (.int 1))) aq))) (gN 3) (aY 2 (cL au (cK (ag 1)) [3, 2, 1] tt1 (cL au (cK (ag 3)) [1, 2, 0] tt1 (ah bM (aa (ag 1) (aa (ag 2) (aa (ag 3) (aa (ag 0) aq)))))))))
    (cb (ag 2)))))
noncomputable def aW : MF := cJ 2 (az (eX (ah aF (aa (ag 0) (aa (cC (.int 1)) (aa (cC (.int 20)) aq)))))
    (az (eX (ah aF (aa (ag 1) (aa (cC (.int 0)) (aa (cC (.int 20)) aq)))))
    (cb (cIf (aZ asB (ak dLe (ag 1) (ag 0))) (ah sH (aa (ak dIx (ah cH (aa (ag 0) aq)) (ag 1)) aq)) (cC (.int 0))))))
noncomputable def bV : MF := cJ 2 (az (eX (ah aF (aa (ag 0) (aa (cC (.int 0)) (aa (cC (.int 20)) aq)))))
    (eX (ah aF (aa (ag 1) (aa (cC (.int 0)) (aa (cC (.int 20)) aq))))))
noncomputable def cg : MF := cJ 3 (cb (cIf (jd (aZ asB (ak dLe (ag 1) (ag 0))) (aZ asB (ak dLe (ag 2) (ag 0)))) (ak dIx (ak dIx (ah cH (aa (ag 0) aq)) (ag 1)) (ag 2)) (cC (.int 0))))
noncomputable def bt : MF := cJ 3 (az (eX (ah aF (aa (ag 0) (aa (cC (.int 1)) (aa (cC (.int 20)) aq)))))
    (az (eX (ah bV (aa (ag 1) (aa (ag 2) aq))))
    (cb (ah cg (aa (ag 0) (aa (ag 1) (aa (ag 2) aq)))))))
noncomputable def dB : MF := gj (fun ds h => ((cJ 5 (az (aY 3 (ak (cp kd) (ah (bU au) (aa (cC (.int 0)) aq)) (ah iA (aa (ag 2) aq))))
    (az (cR (dF h9 (aa (cC (.int 1)) (aa (ah iA (aa (ag 2) aq)) aq))) (gN 4) (eE dX (ag 3) (ag 4) (ak (bh au) (ak (bh au) (ak (cp au) (ag 4) (ak dIx (ag 2) (ag 4))) (ak (cp au) (ak dg (ag 0) (ag 4)) (ak dIx (ag 2) (ak dg (ag 4) (cC (.int 1)))))) (ak (cp au) (ak dg (ag 0) (cC (.int 1))) (ak dIx (ag 1) (ak dg (ag 4) (cC (.int 1))))))))
    (cb (ag 3))))) ds h).bind (cu h))
noncomputable def bJ : MF := cJ 5 (az (eX (ah aF (aa (ag 0) (aa (cC (.int 1)) (aa (cC (.int 20)) aq)))))
    (az (eX (ah aF (aa (ag 1) (aa (cC (.int 0)) (aa (cC (.int 20)) aq)))))
    (az (lJ 2 3 (aa (ak (bh au) (ah (bU au) (aa (cC (.int 1)) aq)) (ak (cp au) (ah (bU au) (aa (cC (.int 0)) aq)) (cC (.int 20)))) (aa (ak (cp au) (ah (bU au) (aa (cC (.int 0)) aq)) (ak (bh au) (cC (.int 20)) (cC (.int 1)))) aq)))
    (az (cR (dF h9 (aa (cC (.int 2)) (aa (ak (bh au) (ag 0) (cC (.int 1))) aq))) (gN 4) (lJ 2 3 (aa (ag 3) (aa (ah dB (aa (ag 4) (aa (ag 2) (aa (ag 3) aq)))) aq))))
    (cb (ak dIx (ag 3) (ag 1)))))))
noncomputable def aV : MF := cJ 10 (az (tu 3 4 5 (ah cj (aa (cC (.int 0)) (aa (cC (.int 0)) (aa (cC (.int 0)) aq)))))
    (az (cR (cK (ah dG (aa (ag 0) aq))) (gN 6) (az (aY 7 (ah iA (aa (cL au (dF gG (aa (ag 0) aq)) [6] (aZ asB (ak dLt (ak dIx (ag 1) (ag 0)) (ag 0))) (ag 0)) aq)))
    (az (aY 8 (ah bA (aa (ag 6) aq)))
    (az (aY 3 (ak (bh au) (ag 3) (ah kE (aa (ak dEq (ag 8) (ag 1)) aq))))
    (az (aY 4 (ak (bh au) (ag 4) (ah kE (aa (jV (ak dEq (ag 8) (ag 1)) (ak dEq (ag 7) (ag 2))) aq))))
    (aY 5 (ak (bh au) (ag 5) (ah kE (aa (jV (ak dEq (ag 7) (ag 2)) (ak dEq (cL au (dF gG (aa (ag 0) aq)) [6] (aZ asB (ak dEq (ak dIx (ag 1) (ag 0)) (ag 0))) (ag 0)) (ah (bU au) aq))) aq)))))))))
    (az (aY 9 (ah (bU au) (aa (ah aW (aa (ag 0) (aa (ag 1) aq))) (aa (ah bt (aa (ag 0) (aa (ag 1) (aa (ag 2) aq)))) (aa (ah bJ (aa (ag 0) (aa (ag 2) aq))) aq)))))
    (cb (ak dEq (ah de (aa (ag 9) aq)) (ah de (aa (ah (bU au) (aa (ag 3) (aa (ag 4) (aa (ag 5) aq)))) aq)))))))
noncomputable def bu : MF := cJ 4 (az (aY 2 (ak (bh au) (ah (bU au) (aa (cC (.int 1)) aq)) (ak (cp au) (ah (bU au) (aa (cC (.int 0)) aq)) (cC (.int 21)))))
    (az (cR (dF gG (aa (ag 0) aq)) (gN 3) (aY 2 (ak (bh au) (ah (bU au) (aa (ak (cp au) (ag 3) (ak dIx (ag 2) (cC (.int 0)))) aq)) (cL au (dF h9 (aa (cC (.int 1)) (aa (cC (.int 22)) aq))) [3, 2] tt1 (ak (bh au) (ak (cp au) (ag 1) (ak dIx (ag 2) (ag 0))) (ak dIx (ag 2) (ak dg (ag 0) (cC (.int 1)))))))))
    (cb (ak dIx (ag 2) (ag 1)))))
noncomputable def bG : MF := gj (fun ds h => ((cJ 7 (az (lJ 2 3 (aa (ak (cp au) (ah (bU au) (aa (cC (.int 0)) aq)) (cC (.int 22))) (aa (ak (bh au) (ah (bU au) (aa (cC (.int 1)) aq)) (ak (cp au) (ah (bU au) (aa (cC (.int 0)) aq)) (cC (.int 21)))) aq)))
    (az (cR (dF h9 (aa (cC (.int 1)) (aa (ak (bh au) (ag 0) (cC (.int 1))) aq))) (gN 4) (az (aY 5 (ak (cp kd) (ah (bU au) (aa (cC (.int 0)) aq)) (cC (.int 22))))
    (az (cR (dF h9 (aa (cC (.int 1)) (aa (cC (.int 22)) aq))) (gN 6) (eE dX (ag 5) (ag 6) (ak (bh au) (ak (bh au) (ak (cp au) (ag 6) (ak dIx (ag 3) (ag 6))) (ak (cp au) (ak dg (ag 4) (ag 6)) (ak dIx (ag 3) (ak dg (ag 6) (cC (.int 1)))))) (ak (cp au) (ak dg (ag 4) (cC (.int 1))) (ak dIx (ag 2) (ak dg (ag 6) (cC (.int 1))))))))
    (lJ 2 3 (aa (ag 3) (aa (ag 5) aq))))))
    (cb (ak dIx (ag 3) (ag 1)))))) ds h).bind (cu h))
noncomputable def bI : MF := gj (fun ds h => ((cJ 12 (az (aY 3 (k4 (ah cj (aa (cC (.int 0)) (aa (cC (.int 0)) aq))) (cC (.int 1))))
    (az (cR (dF gG (aa (ag 0) aq)) (gN 4) (az (aY 5 rC)
    (az (cR (cK (ah (iz au) (aa (ag 3) aq))) (gT2 6 7) (az (aY 8 (ak mD (ag 3) (ah cj (aa (ag 6) (aa (ag 7) aq)))))
    (cR (cK (ah (bU au) (aa (ah cj (aa (ah cj (aa (cC (.int 1)) (aa (cC (.int 0)) aq))) (aa (cC (.int 1)) aq))) (aa (ah cj (aa (ah cj (aa (cC (.int 0)) (aa (cC (.int 0)) aq))) (aa (ag 7) aq))) (aa (ah cj (aa (ah cj (aa (cC (.int 0)) (aa (cC (.int 1)) aq))) (aa (ak dg (ag 4) (ag 7)) aq))) aq))))) (gT2 9 10) (az (aY 11 (ah cj (aa (ak (bh au) (ag 6) (ak dIx (ag 9) (cC (.int 0)))) (aa (ak (bh au) (ag 7) (ak dIx (ag 9) (cC (.int 1)))) aq))))
    (eE mG (ag 5) (ag 11) (ak (bh au) (fW (ag 5) (ag 11) (cC (.int 0))) (ak (cp au) (ag 8) (ag 10))))))))
    (aY 3 (ag 5)))))
    (cb (fW (ag 3) (ah cj (aa (ag 1) (aa (ag 2) aq))) (cC (.int 0))))))) ds h).bind (cu h))
noncomputable def kQ : MF := fun ds h => ((cJ 9 (az (cR (cK (ak (bh au) (ah (bU au) (aa (ah bR (aa (ag 0) (aa (cC (.int 0)) aq))) aq)) (mQ au (ag 0) (mB (cC (.int 1))) (mB (cC (.int 4)))))) (gN 1) (az (aY 2 (ah cx (aa (ag 1) aq)))
    (az (rD 3 4 5 (aa (ak (bh au) (cC (.int 1)) (ah ax (aa (ag 2) (aa (cC (.int 5)) aq)))) (aa (ah ax (aa (ag 2) (aa (cC (.int 7)) aq))) (aa (ah ax (aa (ag 2) (aa (cC (.int 7)) aq))) aq))))
    (az (jv (vY (kR (aZ oz (ah aV (aa (ag 3) (aa (ag 4) (aa (ag 5) aq)))))) (kR (aZ oz (ah aV (aa (cC (.int 6)) (aa (ag 4) (aa (ag 5) aq))))))) (cb (cC (.bl false))) fK)
    (az (aY 3 (ak (bh au) (cC (.int 1)) (ah ax (aa (ag 2) (aa (cC (.int 20)) aq)))))
    (az (aY 5 (ak dIx (ah (bU au) (aa (ah ax (aa (ag 2) (aa (ag 3) aq))) (aa (ah ax (aa (ag 2) (aa (cC (.int 21)) aq))) aq))) (ah ax (aa (ag 2) (aa (cC (.int 2)) aq)))))
    (az (aY 4 (ak dIx (ah (bU au) (aa (ak (bh au) (cC (.int 1)) (ah ax (aa (ag 2) (aa (ag 3) aq)))) (aa (ah ax (aa (ag 2) (aa (cC (.int 21)) aq))) aq))) (ah ax (aa (ag 2) (aa (cC (.int 2)) aq)))))
    (az (jv (aZ asB (ak dNe (ah de (aa (ah aW (aa (ag 3) (aa (ag 4) aq))) aq)) (ah de (aa (ah bu (aa (ag 3) (aa (ag 4) aq))) aq)))) (cb (cC (.bl false))) fK)
    (az (jv (aZ asB (ak dNe (ah de (aa (ah bJ (aa (ag 3) (aa (ag 5) aq))) aq)) (ah de (aa (ah bG (aa (ag 3) (aa (ag 5) aq))) aq)))) (cb (cC (.bl false))) fK)
    (cR (cK (ah (bU au) (aa (ah cj (aa (ag 4) (aa (ag 5) aq))) (aa (ah cj (aa (cC (.int 1)) (aa (ag 5) aq))) (aa (ah cj (aa (ag 4) (aa (cC (.int 0)) aq))) (aa (ah cj (aa (ak dg (ag 3) (ag 5)) (aa (ag 5) aq))) aq)))))) (gT2 6 7) (az (aY 8 (ah bI (aa (ag 3) (aa (ag 6) (aa (ag 7) aq)))))
    (jv (jd (aZ asB (ak dGe (ag 6) (cC (.int 0)))) (aZ asB (ak dNe (ah de (aa (ah bt (aa (ag 3) (aa (ag 6) (aa (ag 7) aq)))) aq)) (ah de (aa (ag 8) aq))))) (cb (cC (.bl false))) fK))))))))))))
    (cb (cC (.bl true))))) ds h).bind (cu h)
noncomputable def aR (i : Nat) : Stmt := PySem.Challenge.pw_fallcounts_k63_rounds_and_drops_counted.main.body.getD i (.Pass ⟨0, 0, 0, 0⟩)
structure Blt (mg : Str -> Option Value) : Prop where
  bool : mg "bool" = none
  int : mg "int" = none
  isinstance : mg "isinstance" = none
  len : mg "len" = none
  list : mg "list" = none
  max : mg "max" = none
  range : mg "range" = none
  repr : mg "repr" = none
  sum : mg "sum" = none
section
variable {P : Program} {w : World} {K : PySem.W.Frag} {mg : Str -> Option Value} {base : Heap} {g : GG}
theorem j7 : a_ ["_law_script", "_law_k"] ["_law_script", "_law_k"] (ay (aR 18)) := ⟨rfl, rfl, rfl, by decide +kernel, rfl, by decide +kernel, by decide +kernel⟩
theorem jt (D : aX K mg "_law_cell_at" (aR 18)) (T : Blt mg) : Has P w K mg base g "_law_cell_at" 1 ["_law_script", "_law_k"] bR := by
  obtain ⟨f, fd, hm, F⟩ := D
  refine ⟨f, fd, eV F j7 (fun cdv A outer s H E hr => ?_), F.kp, F.binds (fun _ _ _ _ _ _ us hl => qt hl fun _ _ => rfl), hm, br F⟩
  exact (@ar _ _ _ _ _ _ _ (@qb _ _ _ _ _ _ _ _ _ _ (@cq _ _ _ _ _ _ _ _ _ _ _ xB xM (af 1) (bP kB lj rfl T.len PySem.boot_len (@ae _ _ _ _ _ _ _ (af 0) aj rfl)) (bK _)) (@aI _ _ _ _ _ (@cm _ _ _ _ _ _ (@bC _ _ _ _ _ _ _ _ _ _ aT bB (af 0) (af 1) (fun _ _ => rfl)))) f7)
      (@aI _ _ _ _ _ (@cm _ _ _ _ _ _ ao)))
theorem gE : a_ ["_law_cell", "_law_left"] ["_law_cell"] (ay (aR 20)) := ⟨rfl, rfl, rfl, by decide +kernel, rfl, by decide +kernel, by decide +kernel⟩
theorem j9 (D : aX K mg "_law_pen_of" (aR 20)) (T : Blt mg) : Has P w K mg base g "_law_pen_of" 1 ["_law_cell"] cx := by
  obtain ⟨f, fd, hm, F⟩ := D
  refine ⟨f, fd, eV F gE (fun cdv A outer s H E hr => ?_), F.kp, F.binds (fun _ _ _ _ _ _ us hl => pU hl fun _ => rfl), hm, br F⟩
  exact (@ar _ _ _ _ _ _ _ (@bD _ _ _ _ _ _ 1 _ _ gE.nd rfl (by first | exact Or.inl rfl | exact Or.inr rfl) (bP (rZ rfl) wk rfl T.max PyProof.Rows.boot_max (@ae _ _ _ _ _ _ _ (af 0) (@ae _ _ _ _ _ _ _ (@av _ _ _ _ _ _ _ _ _ _ _ cT cZ ao (af 0)) aj rfl) rfl)) rfl (.inl rfl))
      (@aI _ _ _ _ _ (@cm _ _ _ _ _ _ (@bQ _ _ _ _ _ _ _ _ (@ae _ _ _ _ _ _ _ (af 1) (@ae _ _ _ _ _ _ _ (fH gZ nv rfl T.int PyProof.Rows.boot_int (@ae _ _ _ _ _ _ _ (@iB _ _ _ _ _ _ _ _ _ _ _ xG xm (af 1) (@av _ _ _ _ _ _ _ _ _ _ _ vU yt ao ao) (bK _)) aj rfl)) (@ae _ _ _ _ _ _ _ (@av _ _ _ _ _ _ _ _ _ _ _ k8 lq (af 1) ao) aj rfl) rfl) rfl)))))
theorem ja : a_ ["_law_seed"] ["_law_seed"] (ay (aR 19)) := ⟨rfl, rfl, rfl, by decide +kernel, rfl, by decide +kernel, by decide +kernel⟩
theorem lM (D : aX K mg "_law_next" (aR 19)) (T : Blt mg) : Has P w K mg base g "_law_next" 1 ["_law_seed"] c_ := by
  obtain ⟨f, fd, hm, F⟩ := D
  refine ⟨f, fd, eV F ja (fun cdv A outer s H E hr => ?_), F.kp, F.binds (fun _ _ _ _ _ _ us hl => pU hl fun _ => rfl), hm, br F⟩
  exact (@ar _ _ _ _ _ _ _ (@bD _ _ _ _ _ _ 0 _ _ ja.nd rfl (by first | exact Or.inl rfl | exact Or.inr rfl) (@av _ _ _ _ _ _ _ _ _ _ _ k8 lq (@av _ _ _ _ _ _ _ _ _ _ _ bf ba (af 0) ao) ao) rfl (.inl rfl))
      (@aI _ _ _ _ _ (@cm _ _ _ _ _ _ (@av _ _ _ _ _ _ _ _ _ _ _ k8 lq (@av _ _ _ _ _ _ _ _ _ _ _ bf ba (@av _ _ _ _ _ _ _ _ _ _ _ bf ba (@av _ _ _ _ _ _ _ _ _ _ _ b_ cc (af 0) (af 0)) (@av _ _ _ _ _ _ _ _ _ _ _ b_ cc ao (af 0))) ao) ao))))
theorem i4 : a_ ["_law_pen", "_law_many", "_law_found"] ["_law_pen", "_law_many"] (ay (aR 21)) := ⟨rfl, rfl, rfl, by decide +kernel, rfl, by decide +kernel, by decide +kernel⟩
theorem lI (D : aX K mg "_law_draw" (aR 21)) (T : Blt mg) (fi : Has P w K mg base g "_law_next" 1 ["_law_seed"] c_) : Has P w K mg base g "_law_draw" 2 ["_law_pen", "_law_many"] ax := by
  obtain ⟨f, fd, hm, F⟩ := D
  obtain ⟨vp, ua, ic, ip, iq, iy, _⟩ := fi
  refine ⟨f, fd, eV F i4 (fun cdv A outer s H E hr => ?_), F.kp, F.binds (fun _ _ _ _ _ _ us hl => qt hl fun _ _ => rfl), hm, br F⟩
  exact (@ar _ _ _ _ _ _ _ (@qb _ _ _ _ _ _ _ _ _ _ (PW.pt (@m_ _ _ _ _ _ _ _ _ _ (@cq _ _ _ _ _ _ _ _ _ _ _ (fk hr.units) iw (@bC _ _ _ _ _ _ _ _ _ _ aT bB (af 0) ao (fun _ _ => rfl)) ao (bK _)) (@kn _ _ _ _ _ _ (@cq _ _ _ _ _ _ _ _ _ _ _ ud ux (@bC _ _ _ _ _ _ _ _ _ _ aT bB (af 0) ao (fun _ _ => rfl)) ao (bK _))))) (@ar _ _ _ _ _ _ _ (@bD _ _ _ _ _ _ 2 _ _ i4.nd rfl (by first | exact Or.inl rfl | exact Or.inr rfl) (@av _ _ _ _ _ _ _ _ _ _ _ k8 lq (@bC _ _ _ _ _ _ _ _ _ _ aT bB (af 0) ao (fun _ _ => rfl)) (af 1)) rfl (.inl rfl))
      (@ar _ _ _ _ _ _ _ (ki (@av _ _ _ _ _ _ _ _ _ _ _ o6 t9 (@bC _ _ _ _ _ _ _ _ _ _ aT bB (af 0) ao (fun _ _ => rfl)) (af 1)) (af 0) ao set_list iY)
      (@aI _ _ _ _ _ (@cm _ _ _ _ _ _ (af 2))))) f7)
      (@ar _ _ _ _ _ _ _ (ki (aC (ic.mono (by decide)) hr rfl iy ip iq (@ae _ _ _ _ _ _ _ (@av _ _ _ _ _ _ _ _ _ _ _ bf ba (aC (ic.mono (by decide)) hr rfl iy ip iq (@ae _ _ _ _ _ _ _ (@bC _ _ _ _ _ _ _ _ _ _ aT bB (af 0) ao (fun _ _ => rfl)) aj rfl) (ai aB)) ao) aj rfl) (ai aB)) (af 0) ao set_list iY)
      (@aI _ _ _ _ _ (@cm _ _ _ _ _ _ (@av _ _ _ _ _ _ _ _ _ _ _ k8 lq (@av _ _ _ _ _ _ _ _ _ _ _ o6 t9 (@bC _ _ _ _ _ _ _ _ _ _ aT bB (af 0) ao (fun _ _ => rfl)) ao) (af 1))))))
theorem df : a_ ["_law_n", "_law_found", "_law_turn", "_law_longer", "_law_begun"] ["_law_n"] (ay (aR 22)) := ⟨rfl, rfl, rfl, by decide +kernel, rfl, by decide +kernel, by decide +kernel⟩
theorem mU (D : aX K mg "_law_all" (aR 22)) (T : Blt mg) : Has P w K mg base g "_law_all" 1 ["_law_n"] dG := by
  obtain ⟨f, fd, hm, F⟩ := D
  refine ⟨f, fd, kW (g6 (eV F df (fun cdv A outer s H E hr => ?_))), F.kp, F.binds (fun _ _ _ _ _ _ us hl => pU hl fun _ => rfl), hm, br F⟩
  exact (@ar _ _ _ _ _ _ _ (@bD _ _ _ _ _ _ 1 _ _ df.nd rfl (by first | exact Or.inl rfl | exact Or.inr rfl) (@bQ _ _ _ _ _ _ _ _ (@ae _ _ _ _ _ _ _ (@cE _ _ _ _ _ _ _ aj) aj rfl)) rfl (.inl rfl))
      (@ar _ _ _ _ _ _ _ (eZ PassesOwn.never rfl (hE rfl T.range (@ae _ _ _ _ _ _ _ (af 0) aj rfl)) (bE (i := 2) df.nd rfl (by first | exact Or.inl rfl | exact Or.inr rfl)) dq (@ar _ _ _ _ _ _ _ (@bD _ _ _ _ _ _ 3 _ _ df.nd rfl (by first | exact Or.inl rfl | exact Or.inr rfl) (@bQ _ _ _ _ _ _ _ _ aj) rfl (.inl rfl))
      (@ar _ _ _ _ _ _ _ (eZ PassesOwn.never rfl (@fj _ _ _ _ _ _ (af 1)) (bE (i := 4) df.nd rfl (by first | exact Or.inl rfl | exact Or.inr rfl)) dq (@aI _ _ _ _ _ (fD (uI PySem.F.slot_list_extend PySem.F.type_list_extend p8 r8 (af 3) (@ae _ _ _ _ _ _ _ (fM (osc := ay (aR 22)) [4] ["_law_number", "_law_begun"] rfl rfl rfl rfl (by decide +kernel) ⟨by decide +kernel, by decide +kernel, rfl, by decide +kernel, rfl, by decide +kernel⟩ (hE rfl T.range (@ae _ _ _ _ _ _ _ (af 0) aj rfl))
        (fun cl C aQ bx fp => (qe (@cq _ _ _ _ _ _ _ _ _ _ _ nH xq (af 0) (af 1) (by rfl)))) (fun cl C aQ bx fp => (@av _ _ _ _ _ _ _ _ _ _ _ bf ba (af 1) (@cE _ _ _ _ _ _ _ (@ae _ _ _ _ _ _ _ (af 0) aj rfl))))) aj rfl)))))
      (@aI _ _ _ _ _ (@bD _ _ _ _ _ _ 1 _ _ df.nd rfl (by first | exact Or.inl rfl | exact Or.inr rfl) (af 3) rfl (.inl rfl))))))
      (@aI _ _ _ _ _ (@cm _ _ _ _ _ _ (af 1)))))
theorem bw : a_ ["_law_order", "_law_found", "_law_left", "_law_here"] ["_law_order"] (ay (aR 23)) := ⟨rfl, rfl, rfl, by decide +kernel, rfl, by decide +kernel, by decide +kernel⟩
theorem gK (D : aX K mg "_law_rounds_many" (aR 23)) (T : Blt mg) : Has P w K mg base g "_law_rounds_many" 1 ["_law_order"] bA := by
  obtain ⟨f, fd, hm, F⟩ := D
  refine ⟨f, fd, kW (g6 (eV F bw (fun cdv A outer s H E hr => ?_))), F.kp, F.binds (fun _ _ _ _ _ _ us hl => pU hl fun _ => rfl), hm, br F⟩
  exact (@ar _ _ _ _ _ _ _ (@bD _ _ _ _ _ _ 1 _ _ bw.nd rfl (by first | exact Or.inl rfl | exact Or.inr rfl) ao rfl (.inl rfl))
      (@ar _ _ _ _ _ _ _ (@bD _ _ _ _ _ _ 2 _ _ bw.nd rfl (by first | exact Or.inl rfl | exact Or.inr rfl) (o9 rfl rfl T.list rfl T.range (@ae _ _ _ _ _ _ _ (bP kB lj rfl T.len PySem.boot_len (@ae _ _ _ _ _ _ _ (af 0) aj rfl)) aj rfl)) rfl (.inl rfl))
      (@ar _ _ _ _ _ _ _ (@rj _ _ _ _ _ _ _ _ 64 PassesOwn.never (@cq _ _ _ _ _ _ _ _ _ _ _ (mR hr.units) qJ (af 2) (@bQ _ _ _ _ _ _ _ _ aj) (bK _)) (@ar _ _ _ _ _ _ _ (@bD _ _ _ _ _ _ 1 _ _ bw.nd rfl (by first | exact Or.inl rfl | exact Or.inr rfl) (@av _ _ _ _ _ _ _ _ _ _ _ bf ba (af 1) ao) rfl (.inl rfl))
      (@ar _ _ _ _ _ _ _ (@bD _ _ _ _ _ _ 3 _ _ bw.nd rfl (by first | exact Or.inl rfl | exact Or.inr rfl) (@bC _ _ _ _ _ _ _ _ _ _ aT bB (af 2) ao (fun _ _ => rfl)) rfl (.inl rfl))
      (@aI _ _ _ _ _ (@rj _ _ _ _ _ _ _ _ 64 PassesOwn.never (@cq _ _ _ _ _ _ _ _ _ _ _ rS xq (af 3) (af 2) (by rfl)) (@ar _ _ _ _ _ _ _ (fD (uI PySem.F.slot_list_remove PySem.F.type_list_remove rR sJ (af 2) (@ae _ _ _ _ _ _ _ (af 3) aj rfl)))
      (@aI _ _ _ _ _ (@bD _ _ _ _ _ _ 3 _ _ bw.nd rfl (by first | exact Or.inl rfl | exact Or.inr rfl) (@bC _ _ _ _ _ _ _ _ _ _ aT bB (af 0) (af 3) (fun _ _ => rfl)) rfl (.inl rfl)))))))))
      (@aI _ _ _ _ _ (@cm _ _ _ _ _ _ (af 1))))))
theorem oR : a_ ["thing"] ["thing"] (ay (aR 4)) := ⟨rfl, rfl, rfl, by decide +kernel, rfl, by decide +kernel, by decide +kernel⟩
theorem n6 (D : aX K mg "is_whole" (aR 4)) (T : Blt mg) : Has P w K mg base g "is_whole" 1 ["thing"] eA := by
  obtain ⟨f, fd, hm, F⟩ := D
  refine ⟨f, fd, eV F oR (fun cdv A outer s H E hr => ?_), F.kp, F.binds (fun _ _ _ _ _ _ us hl => pU hl fun _ => rfl), hm, br F⟩
  exact (@aI _ _ _ _ _ (@cm _ _ _ _ _ _ (@mZ _ _ _ _ _ _ _ _ _ (tE (af 0) rfl T.isinstance rfl T.int PyProof.Rows.boot_int) (@m6 _ _ _ _ _ _ _ (@yc _ _ _ _ _ _ (tE (af 0) rfl T.isinstance rfl T.bool PyProof.Rows.boot_bool))))))
theorem mT : a_ ["thing", "least", "most"] ["thing", "least", "most"] (ay (aR 5)) := ⟨rfl, rfl, rfl, by decide +kernel, rfl, by decide +kernel, by decide +kernel⟩
theorem lE (D : aX K mg "is_within" (aR 5)) (T : Blt mg) (f6 : Has P w K mg base g "is_whole" 1 ["thing"] eA) : Has P w K mg base g "is_within" 2 ["thing", "least", "most"] dP := by
  obtain ⟨f, fd, hm, F⟩ := D
  obtain ⟨wU, vo, n_, mS, nU, nB, _⟩ := f6
  refine ⟨f, fd, eV F mT (fun cdv A outer s H E hr => ?_), F.kp, F.binds (fun _ _ _ _ _ _ us hl => qy hl fun _ _ _ => rfl), hm, br F⟩
  exact (@aI _ _ _ _ _ (@cm _ _ _ _ _ _ (@mZ _ _ _ _ _ _ _ _ _ (aC (n_.mono (by decide)) hr rfl nB mS nU (@ae _ _ _ _ _ _ _ (af 0) aj rfl) (ai aB)) (@m6 _ _ _ _ _ _ _ (uF oo oo oN oN (af 1) (af 0) (af 2))))))
theorem jG : a_ ["thing", "least", "most"] ["thing", "least", "most"] (ay (aR 6)) := ⟨rfl, rfl, rfl, by decide +kernel, rfl, by decide +kernel, by decide +kernel⟩
theorem iV (D : aX K mg "number_needed" (aR 6)) (T : Blt mg) (fo : Has P w K mg base g "is_within" 2 ["thing", "least", "most"] dP) : Has P w K mg base g "number_needed" 3 ["thing", "least", "most"] aF := by
  obtain ⟨f, fd, hm, F⟩ := D
  obtain ⟨vq, tP, lH, lP, lU, lX, _⟩ := fo
  refine ⟨f, fd, eV F jG (fun cdv A outer s H E hr => ?_), F.kp, F.binds (fun _ _ _ _ _ _ us hl => qy hl fun _ _ _ => rfl), hm, br F⟩
  exact (@aI _ _ _ _ _ (@qb _ _ _ _ _ _ _ _ _ _ (@qA _ _ _ _ _ _ (@kD _ _ _ _ _ _ qf (aC (lH.mono (by decide)) hr rfl lX lP lU (@ae _ _ _ _ _ _ _ (af 0) (@ae _ _ _ _ _ _ _ (af 1) (@ae _ _ _ _ _ _ _ (af 2) aj rfl) rfl) rfl) (ai (ai (ai aB)))) (fun _ => rfl))) (@aI _ _ _ _ _ (PS.imp tN fun E σ H ⟨α, env, h, s, w⟩ => w.elim)) f7))
theorem fT : a_ ["size", "rows", "r", "k", "alone", "behind_others"] ["size", "rows", "r", "k"] (ay (aR 15)) := ⟨rfl, rfl, rfl, by decide +kernel, rfl, by decide +kernel, by decide +kernel⟩
theorem lB (D : aX K mg "both_next" (aR 15)) (T : Blt mg) : Has P w K mg base g "both_next" 1 ["size", "rows", "r", "k"] bM := by
  obtain ⟨f, fd, hm, F⟩ := D
  refine ⟨f, fd, eV F fT (fun cdv A outer s H E hr => ?_), F.kp, F.binds (fun _ _ _ _ _ _ us hl => B_ hl fun _ _ _ _ => rfl), hm, br F⟩
  exact (@ar _ _ _ _ _ _ _ (@bD _ _ _ _ _ _ 4 _ _ fT.nd rfl (by first | exact Or.inl rfl | exact Or.inr rfl) (@gz _ _ _ _ _ _ _ _ _ _ (@cq _ _ _ _ _ _ _ _ _ _ _ ud ux (af 2) ao (bK _)) (@bC _ _ _ _ _ _ _ _ _ _ aT bB (@bC _ _ _ _ _ _ _ _ _ _ aT bB (af 1) (@av _ _ _ _ _ _ _ _ _ _ _ cT cZ (af 2) ao) (fun _ _ => rfl)) (af 3) (fun _ _ => rfl)) ao) rfl (.inl rfl))
      (@ar _ _ _ _ _ _ _ (@bD _ _ _ _ _ _ 5 _ _ fT.nd rfl (by first | exact Or.inl rfl | exact Or.inr rfl) (@gz _ _ _ _ _ _ _ _ _ _ (@cq _ _ _ _ _ _ _ _ _ _ _ ud ux (af 3) ao (bK _)) (@av _ _ _ _ _ _ _ _ _ _ _ b_ cc (@av _ _ _ _ _ _ _ _ _ _ _ cT cZ (af 0) (af 3)) (@bC _ _ _ _ _ _ _ _ _ _ aT bB (@bC _ _ _ _ _ _ _ _ _ _ aT bB (af 1) (af 2) (fun _ _ => rfl)) (@av _ _ _ _ _ _ _ _ _ _ _ cT cZ (af 3) ao) (fun _ _ => rfl))) ao) rfl (.inl rfl))
      (@aI _ _ _ _ _ (@cm _ _ _ _ _ _ (@av _ _ _ _ _ _ _ _ _ _ _ bf ba (@av _ _ _ _ _ _ _ _ _ _ _ bf ba (af 4) (@av _ _ _ _ _ _ _ _ _ _ _ b_ cc (af 3) (@bC _ _ _ _ _ _ _ _ _ _ aT bB (@bC _ _ _ _ _ _ _ _ _ _ aT bB (af 1) (af 2) (fun _ _ => rfl)) (af 3) (fun _ _ => rfl)))) (af 5))))))
theorem dm : a_ ["n", "every", "rows", "size"] ["n"] (ay (aR 14)) := ⟨rfl, rfl, rfl, by decide +kernel, rfl, by decide +kernel, by decide +kernel⟩
theorem lG (D : aX K mg "both_rows" (aR 14)) (T : Blt mg) (fu : Has P w K mg base g "both_next" 1 ["size", "rows", "r", "k"] bM) : Has P w K mg base g "both_rows" 2 ["n"] cH := by
  obtain ⟨f, fd, hm, F⟩ := D
  obtain ⟨vn, uG, lS, lK, lV, lT, _⟩ := fu
  refine ⟨f, fd, eV F dm (fun cdv A outer s H E hr => ?_), F.kp, F.binds (fun _ _ _ _ _ _ us hl => pU hl fun _ => rfl), hm, br F⟩
  exact (@ar _ _ _ _ _ _ _ (@bD _ _ _ _ _ _ 1 _ _ dm.nd rfl (by first | exact Or.inl rfl | exact Or.inr rfl) (o9 rfl rfl T.list rfl T.range (@ae _ _ _ _ _ _ _ (@av _ _ _ _ _ _ _ _ _ _ _ bf ba (af 0) ao) aj rfl)) rfl (.inl rfl))
      (@ar _ _ _ _ _ _ _ (@bD _ _ _ _ _ _ 2 _ _ dm.nd rfl (by first | exact Or.inl rfl | exact Or.inr rfl) (pw (osc := ay (aR 14)) [1] ["r", "every"] rfl rfl rfl rfl (by decide +kernel) ⟨by decide +kernel, rfl, rfl, by decide +kernel, rfl, by decide +kernel⟩ (@fj _ _ _ _ _ _ (af 1))
        (fun cl C aQ bx fp => ku) (fun cl C aQ bx fp => (fM (osc := AF _ (ay (aR 14))) [0] ["k", "r"] rfl rfl rfl rfl (by decide +kernel) ⟨by decide +kernel, by decide +kernel, rfl, by decide +kernel, rfl, by decide +kernel⟩ (@fj _ _ _ _ _ _ (af 1))
        (fun cl C aQ bx fp => ku) (fun cl C aQ bx fp => (@gz _ _ _ _ _ _ _ _ _ _ (PW.pt (@m_ _ _ _ _ _ _ _ _ _ (@cq _ _ _ _ _ _ _ _ _ _ _ (fk hr.units) iw (af 1) ao (bK _)) (@kn _ _ _ _ _ _ (@cq _ _ _ _ _ _ _ _ _ _ _ (fk hr.units) iw (af 0) ao (bK _))))) ao ao))))) rfl (.inl rfl))
      (@ar _ _ _ _ _ _ _ (eZ PassesOwn.never rfl (g9 rfl T.range (@ae _ _ _ _ _ _ _ ao (@ae _ _ _ _ _ _ _ (@av _ _ _ _ _ _ _ _ _ _ _ bf ba (af 0) ao) aj rfl) rfl)) (bE (i := 3) dm.nd rfl (by first | exact Or.inl rfl | exact Or.inr rfl)) dq (@aI _ _ _ _ _ (@bD _ _ _ _ _ _ 2 _ _ dm.nd rfl (by first | exact Or.inl rfl | exact Or.inr rfl) (pw (osc := ay (aR 14)) [3, 2, 1] ["r", "size", "rows", "every"] rfl rfl rfl rfl (by decide +kernel) ⟨by decide +kernel, rfl, rfl, by decide +kernel, rfl, by decide +kernel⟩ (@fj _ _ _ _ _ _ (af 1))
        (fun cl C aQ bx fp => ku) (fun cl C aQ bx fp => (fM (osc := AF _ (ay (aR 14))) [1, 2, 0] ["k", "size", "rows", "r"] rfl rfl rfl rfl (by decide +kernel) ⟨by decide +kernel, by decide +kernel, rfl, by decide +kernel, rfl, by decide +kernel⟩ (@fj _ _ _ _ _ _ (af 3))
        (fun cl C aQ bx fp => ku) (fun cl C aQ bx fp => (aC (lS.mono (by decide)) hr rfl lT lK lV (@ae _ _ _ _ _ _ _ (af 1) (@ae _ _ _ _ _ _ _ (af 2) (@ae _ _ _ _ _ _ _ (af 3) (@ae _ _ _ _ _ _ _ (af 0) aj rfl) rfl) rfl) rfl) (ai (ai (ai (ai aB))))))))) rfl (.inl rfl))))
      (@aI _ _ _ _ _ (@cm _ _ _ _ _ _ (af 2))))))
theorem j0 : a_ ["n", "r"] ["n", "r"] (ay (aR 9)) := ⟨rfl, rfl, rfl, by decide +kernel, rfl, by decide +kernel, by decide +kernel⟩
theorem jC (D : aX K mg "rounds_count" (aR 9)) (T : Blt mg) {bF : Tok} (aA : mg "MOST_NUMBERS" = some (.int 20 bF)) (aG : Has P w K mg base g "number_needed" 3 ["thing", "least", "most"] aF) (cy : Has P w K mg base g "both_rows" 2 ["n"] cH) : Has P w K mg base g "rounds_count" 4 ["n", "r"] aW := by
  obtain ⟨f, fd, hm, F⟩ := D
  obtain ⟨dt, cV, aM, aO, aL, aN, _⟩ := aG
  obtain ⟨lF, kP, ft, fe, fF, fm, _⟩ := cy
  refine ⟨f, fd, eV F j0 (fun cdv A outer s H E hr => ?_), F.kp, F.binds (fun _ _ _ _ _ _ us hl => qt hl fun _ _ => rfl), hm, br F⟩
  exact (@ar _ _ _ _ _ _ _ (fD (aC (aM.mono (by decide)) hr rfl aN aO aL (@ae _ _ _ _ _ _ _ (af 0) (@ae _ _ _ _ _ _ _ ao (@ae _ _ _ _ _ _ _ (dw rfl aA) aj rfl) rfl) rfl) (ai (ai (ai aB)))))
      (@ar _ _ _ _ _ _ _ (fD (aC (aM.mono (by decide)) hr rfl aN aO aL (@ae _ _ _ _ _ _ _ (af 1) (@ae _ _ _ _ _ _ _ ao (@ae _ _ _ _ _ _ _ (dw rfl aA) aj rfl) rfl) rfl) (ai (ai (ai aB)))))
      (@aI _ _ _ _ _ (@cm _ _ _ _ _ _ (@gz _ _ _ _ _ _ _ _ _ _ (@cq _ _ _ _ _ _ _ _ _ _ _ oo oN (af 1) (af 0) (bK _)) (bP (sQ rfl) yI rfl T.sum PyProof.Rows.boot_sum (@ae _ _ _ _ _ _ _ (@bC _ _ _ _ _ _ _ _ _ _ aT bB (aC (ft.mono (by decide)) hr rfl fm fe fF (@ae _ _ _ _ _ _ _ (af 0) aj rfl) (ai aB)) (af 1) (fun _ _ => rfl)) aj rfl)) ao)))))
theorem jE : a_ ["r", "k"] ["r", "k"] (ay (aR 12)) := ⟨rfl, rfl, rfl, by decide +kernel, rfl, by decide +kernel, by decide +kernel⟩
theorem jb (D : aX K mg "counts_needed" (aR 12)) (T : Blt mg) {bF : Tok} (aA : mg "MOST_NUMBERS" = some (.int 20 bF)) (aG : Has P w K mg base g "number_needed" 3 ["thing", "least", "most"] aF) : Has P w K mg base g "counts_needed" 4 ["r", "k"] bV := by
  obtain ⟨f, fd, hm, F⟩ := D
  obtain ⟨dt, cV, aM, aO, aL, aN, _⟩ := aG
  refine ⟨f, fd, eV F jE (fun cdv A outer s H E hr => ?_), F.kp, F.binds (fun _ _ _ _ _ _ us hl => qt hl fun _ _ => rfl), hm, br F⟩
  exact (@ar _ _ _ _ _ _ _ (fD (aC (aM.mono (by decide)) hr rfl aN aO aL (@ae _ _ _ _ _ _ _ (af 0) (@ae _ _ _ _ _ _ _ ao (@ae _ _ _ _ _ _ _ (dw rfl aA) aj rfl) rfl) rfl) (ai (ai (ai aB)))))
      (@aI _ _ _ _ _ (fD (aC (aM.mono (by decide)) hr rfl aN aO aL (@ae _ _ _ _ _ _ _ (af 1) (@ae _ _ _ _ _ _ _ ao (@ae _ _ _ _ _ _ _ (dw rfl aA) aj rfl) rfl) rfl) (ai (ai (ai aB)))))))
theorem j8 : a_ ["n", "r", "k"] ["n", "r", "k"] (ay (aR 13)) := ⟨rfl, rfl, rfl, by decide +kernel, rfl, by decide +kernel, by decide +kernel⟩
theorem jo (D : aX K mg "both_counted" (aR 13)) (T : Blt mg) (cy : Has P w K mg base g "both_rows" 2 ["n"] cH) : Has P w K mg base g "both_counted" 3 ["n", "r", "k"] cg := by
  obtain ⟨f, fd, hm, F⟩ := D
  obtain ⟨lF, kP, ft, fe, fF, fm, _⟩ := cy
  refine ⟨f, fd, eV F j8 (fun cdv A outer s H E hr => ?_), F.kp, F.binds (fun _ _ _ _ _ _ us hl => qy hl fun _ _ _ => rfl), hm, br F⟩
  exact (@aI _ _ _ _ _ (@cm _ _ _ _ _ _ (@gz _ _ _ _ _ _ _ _ _ _ (PW.pt (@m_ _ _ _ _ _ _ _ _ _ (@cq _ _ _ _ _ _ _ _ _ _ _ oo oN (af 1) (af 0) (bK _)) (@kn _ _ _ _ _ _ (@cq _ _ _ _ _ _ _ _ _ _ _ oo oN (af 2) (af 0) (bK _))))) (@bC _ _ _ _ _ _ _ _ _ _ aT bB (@bC _ _ _ _ _ _ _ _ _ _ aT bB (aC (ft.mono (by decide)) hr rfl fm fe fF (@ae _ _ _ _ _ _ _ (af 0) aj rfl) (ai aB)) (af 1) (fun _ _ => rfl)) (af 2) (fun _ _ => rfl)) ao)))
theorem lQ : a_ ["n", "r", "k"] ["n", "r", "k"] (ay (aR 10)) := ⟨rfl, rfl, rfl, by decide +kernel, rfl, by decide +kernel, by decide +kernel⟩
theorem kT (D : aX K mg "both_count" (aR 10)) (T : Blt mg) {bF : Tok} (aA : mg "MOST_NUMBERS" = some (.int 20 bF)) (aG : Has P w K mg base g "number_needed" 3 ["thing", "least", "most"] aF) (dh : Has P w K mg base g "counts_needed" 4 ["r", "k"] bV) (dI : Has P w K mg base g "both_counted" 3 ["n", "r", "k"] cg) : Has P w K mg base g "both_count" 5 ["n", "r", "k"] bt := by
  obtain ⟨f, fd, hm, F⟩ := D
  obtain ⟨dt, cV, aM, aO, aL, aN, _⟩ := aG
  obtain ⟨qY, qi, iS, iO, iT, jf, _⟩ := dh
  obtain ⟨sN, qR, jq, jD, jK, jn, _⟩ := dI
  refine ⟨f, fd, eV F lQ (fun cdv A outer s H E hr => ?_), F.kp, F.binds (fun _ _ _ _ _ _ us hl => qy hl fun _ _ _ => rfl), hm, br F⟩
  exact (@ar _ _ _ _ _ _ _ (fD (aC (aM.mono (by decide)) hr rfl aN aO aL (@ae _ _ _ _ _ _ _ (af 0) (@ae _ _ _ _ _ _ _ ao (@ae _ _ _ _ _ _ _ (dw rfl aA) aj rfl) rfl) rfl) (ai (ai (ai aB)))))
      (@ar _ _ _ _ _ _ _ (fD (aC (iS.mono (by decide)) hr rfl jf iO iT (@ae _ _ _ _ _ _ _ (af 1) (@ae _ _ _ _ _ _ _ (af 2) aj rfl) rfl) (ai (ai aB))))
      (@aI _ _ _ _ _ (@cm _ _ _ _ _ _ (aC (jq.mono (by decide)) hr rfl jn jD jK (@ae _ _ _ _ _ _ _ (af 0) (@ae _ _ _ _ _ _ _ (af 1) (@ae _ _ _ _ _ _ _ (af 2) aj rfl) rfl) rfl) (ai (ai (ai aB))))))))
theorem gO : a_ ["size", "before", "row", "counts", "k"] ["size", "before", "row"] (ay (aR 16)) := ⟨rfl, rfl, rfl, by decide +kernel, rfl, by decide +kernel, by decide +kernel⟩
theorem nT (D : aX K mg "none_row" (aR 16)) (T : Blt mg) : Has P w K mg base g "none_row" 1 ["size", "before", "row"] dB := by
  obtain ⟨f, fd, hm, F⟩ := D
  refine ⟨f, fd, kW (g6 (eV F gO (fun cdv A outer s H E hr => ?_))), F.kp, F.binds (fun _ _ _ _ _ _ us hl => qy hl fun _ _ _ => rfl), hm, br F⟩
  exact (@ar _ _ _ _ _ _ _ (@bD _ _ _ _ _ _ 3 _ _ gO.nd rfl (by first | exact Or.inl rfl | exact Or.inr rfl) (@av _ _ _ _ _ _ _ _ _ _ _ b_ cc (@bQ _ _ _ _ _ _ _ _ (@ae _ _ _ _ _ _ _ ao aj rfl)) (bP kB lj rfl T.len PySem.boot_len (@ae _ _ _ _ _ _ _ (af 2) aj rfl))) rfl (.inl rfl))
      (@ar _ _ _ _ _ _ _ (eZ PassesOwn.never rfl (g9 rfl T.range (@ae _ _ _ _ _ _ _ ao (@ae _ _ _ _ _ _ _ (bP kB lj rfl T.len PySem.boot_len (@ae _ _ _ _ _ _ _ (af 2) aj rfl)) aj rfl) rfl)) (bE (i := 4) gO.nd rfl (by first | exact Or.inl rfl | exact Or.inr rfl)) dq (@aI _ _ _ _ _ (ki (@av _ _ _ _ _ _ _ _ _ _ _ bf ba (@av _ _ _ _ _ _ _ _ _ _ _ bf ba (@av _ _ _ _ _ _ _ _ _ _ _ b_ cc (af 4) (@bC _ _ _ _ _ _ _ _ _ _ aT bB (af 2) (af 4) (fun _ _ => rfl))) (@av _ _ _ _ _ _ _ _ _ _ _ b_ cc (@av _ _ _ _ _ _ _ _ _ _ _ cT cZ (af 0) (af 4)) (@bC _ _ _ _ _ _ _ _ _ _ aT bB (af 2) (@av _ _ _ _ _ _ _ _ _ _ _ cT cZ (af 4) ao) (fun _ _ => rfl)))) (@av _ _ _ _ _ _ _ _ _ _ _ b_ cc (@av _ _ _ _ _ _ _ _ _ _ _ cT cZ (af 0) ao) (@bC _ _ _ _ _ _ _ _ _ _ aT bB (af 1) (@av _ _ _ _ _ _ _ _ _ _ _ cT cZ (af 4) ao) (fun _ _ => rfl)))) (af 3) (af 4) set_list iY)))
      (@aI _ _ _ _ _ (@cm _ _ _ _ _ _ (af 3)))))
theorem dM : a_ ["n", "k", "before", "row", "size"] ["n", "k"] (ay (aR 11)) := ⟨rfl, rfl, rfl, by decide +kernel, rfl, by decide +kernel, by decide +kernel⟩
theorem k6 (D : aX K mg "none_count" (aR 11)) (T : Blt mg) {bF : Tok} (aA : mg "MOST_NUMBERS" = some (.int 20 bF)) (aG : Has P w K mg base g "number_needed" 3 ["thing", "least", "most"] aF) (fY : Has P w K mg base g "none_row" 1 ["size", "before", "row"] dB) : Has P w K mg base g "none_count" 4 ["n", "k"] bJ := by
  obtain ⟨f, fd, hm, F⟩ := D
  obtain ⟨dt, cV, aM, aO, aL, aN, _⟩ := aG
  obtain ⟨xb, vj, nG, nz, nI, nO, _⟩ := fY
  refine ⟨f, fd, eV F dM (fun cdv A outer s H E hr => ?_), F.kp, F.binds (fun _ _ _ _ _ _ us hl => qt hl fun _ _ => rfl), hm, br F⟩
  exact (@ar _ _ _ _ _ _ _ (fD (aC (aM.mono (by decide)) hr rfl aN aO aL (@ae _ _ _ _ _ _ _ (af 0) (@ae _ _ _ _ _ _ _ ao (@ae _ _ _ _ _ _ _ (dw rfl aA) aj rfl) rfl) rfl) (ai (ai (ai aB)))))
      (@ar _ _ _ _ _ _ _ (fD (aC (aM.mono (by decide)) hr rfl aN aO aL (@ae _ _ _ _ _ _ _ (af 1) (@ae _ _ _ _ _ _ _ ao (@ae _ _ _ _ _ _ _ (dw rfl aA) aj rfl) rfl) rfl) (ai (ai (ai aB)))))
      (@ar _ _ _ _ _ _ _ (m7 (i := 2) (j := 3) rfl dM.nd rfl rfl (by decide) (@ae _ _ _ _ _ _ _ (@av _ _ _ _ _ _ _ _ _ _ _ bf ba (@bQ _ _ _ _ _ _ _ _ (@ae _ _ _ _ _ _ _ ao aj rfl)) (@av _ _ _ _ _ _ _ _ _ _ _ b_ cc (@bQ _ _ _ _ _ _ _ _ (@ae _ _ _ _ _ _ _ ao aj rfl)) (dw rfl aA))) (@ae _ _ _ _ _ _ _ (@av _ _ _ _ _ _ _ _ _ _ _ b_ cc (@bQ _ _ _ _ _ _ _ _ (@ae _ _ _ _ _ _ _ ao aj rfl)) (@av _ _ _ _ _ _ _ _ _ _ _ bf ba (dw rfl aA) ao)) aj rfl) rfl))
      (@ar _ _ _ _ _ _ _ (eZ PassesOwn.never rfl (g9 rfl T.range (@ae _ _ _ _ _ _ _ ao (@ae _ _ _ _ _ _ _ (@av _ _ _ _ _ _ _ _ _ _ _ bf ba (af 0) ao) aj rfl) rfl)) (bE (i := 4) dM.nd rfl (by first | exact Or.inl rfl | exact Or.inr rfl)) dq (@aI _ _ _ _ _ (m7 (i := 2) (j := 3) rfl dM.nd rfl rfl (by decide) (@ae _ _ _ _ _ _ _ (af 3) (@ae _ _ _ _ _ _ _ (aC (nG.mono (by decide)) hr rfl nO nz nI (@ae _ _ _ _ _ _ _ (af 4) (@ae _ _ _ _ _ _ _ (af 2) (@ae _ _ _ _ _ _ _ (af 3) aj rfl) rfl) rfl) (ai (ai (ai aB)))) aj rfl) rfl))))
      (@aI _ _ _ _ _ (@cm _ _ _ _ _ _ (@bC _ _ _ _ _ _ _ _ _ _ aT bB (af 3) (af 1) (fun _ _ => rfl))))))))
theorem aJ : a_ ["_law_n", "_law_r", "_law_k", "_law_rounds", "_law_both", "_law_none", "_law_order", "_law_drops", "_law_many", "_law_found"] ["_law_n", "_law_r", "_law_k"] (ay (aR 24)) := ⟨rfl, rfl, rfl, by decide +kernel, rfl, by decide +kernel, by decide +kernel⟩
theorem gv (D : aX K mg "_law_small_right" (aR 24)) (T : Blt mg) (fQ : Has P w K mg base g "_law_all" 1 ["_law_n"] dG) (cF : Has P w K mg base g "_law_rounds_many" 1 ["_law_order"] bA) (bN : Has P w K mg base g "rounds_count" 4 ["n", "r"] aW) (cf : Has P w K mg base g "both_count" 5 ["n", "r", "k"] bt) (b9 : Has P w K mg base g "none_count" 4 ["n", "k"] bJ) : Has P w K mg base g "_law_small_right" 6 ["_law_n", "_law_r", "_law_k"] aV := by
  obtain ⟨f, fd, hm, F⟩ := D
  obtain ⟨wL, vm, ng, nq, nX, mV, _⟩ := fQ
  obtain ⟨pB, oh, gR, gD, gA, gU, _⟩ := cF
  obtain ⟨jH, je, dA, dJ, dz, dC, _⟩ := bN
  obtain ⟨kI, kf, eT, eP, eN, eM, _⟩ := cf
  obtain ⟨lg, ke, eD, eG, eJ, eB, _⟩ := b9
  refine ⟨f, fd, eV F aJ (fun cdv A outer s H E hr => ?_), F.kp, F.binds (fun _ _ _ _ _ _ us hl => qy hl fun _ _ _ => rfl), hm, br F⟩
  exact (@ar _ _ _ _ _ _ _ (zQ (i := 3) (j := 4) (k := 5) rfl aJ.nd rfl rfl rfl (@cE _ _ _ _ _ _ _ (@ae _ _ _ _ _ _ _ ao (@ae _ _ _ _ _ _ _ ao (@ae _ _ _ _ _ _ _ ao aj rfl) rfl) rfl)))
      (@ar _ _ _ _ _ _ _ (eZ PassesOwn.never rfl (@fj _ _ _ _ _ _ (aC (ng.mono (by decide)) hr rfl mV nq nX (@ae _ _ _ _ _ _ _ (af 0) aj rfl) (ai aB))) (bE (i := 6) aJ.nd rfl (by first | exact Or.inl rfl | exact Or.inr rfl)) dq (@ar _ _ _ _ _ _ _ (@bD _ _ _ _ _ _ 7 _ _ aJ.nd rfl (by first | exact Or.inl rfl | exact Or.inr rfl) (bP kB lj rfl T.len PySem.boot_len (@ae _ _ _ _ _ _ _ (fM (osc := ay (aR 24)) [6] ["_law_place", "_law_order"] rfl rfl rfl rfl (by decide +kernel) ⟨by decide +kernel, by decide +kernel, rfl, by decide +kernel, rfl, by decide +kernel⟩ (hE rfl T.range (@ae _ _ _ _ _ _ _ (af 0) aj rfl))
        (fun cl C aQ bx fp => (qe (@cq _ _ _ _ _ _ _ _ _ _ _ xB xM (@bC _ _ _ _ _ _ _ _ _ _ aT bB (af 1) (af 0) (fun _ _ => rfl)) (af 0) (bK _)))) (fun cl C aQ bx fp => (af 0))) aj rfl)) rfl (.inl rfl))
      (@ar _ _ _ _ _ _ _ (@bD _ _ _ _ _ _ 8 _ _ aJ.nd rfl (by first | exact Or.inl rfl | exact Or.inr rfl) (aC (gR.mono (by decide)) hr rfl gU gD gA (@ae _ _ _ _ _ _ _ (af 6) aj rfl) (ai aB)) rfl (.inl rfl))
      (@ar _ _ _ _ _ _ _ (@bD _ _ _ _ _ _ 3 _ _ aJ.nd rfl (by first | exact Or.inl rfl | exact Or.inr rfl) (@av _ _ _ _ _ _ _ _ _ _ _ bf ba (af 3) (fH gZ nv rfl T.int PyProof.Rows.boot_int (@ae _ _ _ _ _ _ _ (@iB _ _ _ _ _ _ _ _ _ _ _ (fk hr.units) iw (af 8) (af 1) (bK _)) aj rfl))) rfl (.inl rfl))
      (@ar _ _ _ _ _ _ _ (@bD _ _ _ _ _ _ 4 _ _ aJ.nd rfl (by first | exact Or.inl rfl | exact Or.inr rfl) (@av _ _ _ _ _ _ _ _ _ _ _ bf ba (af 4) (fH gZ nv rfl T.int PyProof.Rows.boot_int (@ae _ _ _ _ _ _ _ (@mZ _ _ _ _ _ _ _ _ _ (@iB _ _ _ _ _ _ _ _ _ _ _ (fk hr.units) iw (af 8) (af 1) (bK _)) (@m6 _ _ _ _ _ _ _ (@iB _ _ _ _ _ _ _ _ _ _ _ (fk hr.units) iw (af 7) (af 2) (bK _)))) aj rfl))) rfl (.inl rfl))
      (@aI _ _ _ _ _ (@bD _ _ _ _ _ _ 5 _ _ aJ.nd rfl (by first | exact Or.inl rfl | exact Or.inr rfl) (@av _ _ _ _ _ _ _ _ _ _ _ bf ba (af 5) (fH gZ nv rfl T.int PyProof.Rows.boot_int (@ae _ _ _ _ _ _ _ (@mZ _ _ _ _ _ _ _ _ _ (@iB _ _ _ _ _ _ _ _ _ _ _ (fk hr.units) iw (af 7) (af 2) (bK _)) (@m6 _ _ _ _ _ _ _ (@iB _ _ _ _ _ _ _ _ _ _ _ (fk hr.units) iw (fM (osc := ay (aR 24)) [6] ["_law_place", "_law_order"] rfl rfl rfl rfl (by decide +kernel) ⟨by decide +kernel, by decide +kernel, rfl, by decide +kernel, rfl, by decide +kernel⟩ (hE rfl T.range (@ae _ _ _ _ _ _ _ (af 0) aj rfl))
        (fun cl C aQ bx fp => (qe (@cq _ _ _ _ _ _ _ _ _ _ _ (fk hr.units) iw (@bC _ _ _ _ _ _ _ _ _ _ aT bB (af 1) (af 0) (fun _ _ => rfl)) (af 0) (bK _)))) (fun cl C aQ bx fp => (af 0))) (@bQ _ _ _ _ _ _ _ _ aj) (bK _)))) aj rfl))) rfl (.inl rfl))))))))
      (@ar _ _ _ _ _ _ _ (@bD _ _ _ _ _ _ 9 _ _ aJ.nd rfl (by first | exact Or.inl rfl | exact Or.inr rfl) (@bQ _ _ _ _ _ _ _ _ (@ae _ _ _ _ _ _ _ (aC (dA.mono (by decide)) hr rfl dC dJ dz (@ae _ _ _ _ _ _ _ (af 0) (@ae _ _ _ _ _ _ _ (af 1) aj rfl) rfl) (ai (ai aB))) (@ae _ _ _ _ _ _ _ (aC (eT.mono (by decide)) hr rfl eM eP eN (@ae _ _ _ _ _ _ _ (af 0) (@ae _ _ _ _ _ _ _ (af 1) (@ae _ _ _ _ _ _ _ (af 2) aj rfl) rfl) rfl) (ai (ai (ai aB)))) (@ae _ _ _ _ _ _ _ (aC (eD.mono (by decide)) hr rfl eB eG eJ (@ae _ _ _ _ _ _ _ (af 0) (@ae _ _ _ _ _ _ _ (af 2) aj rfl) rfl) (ai (ai aB))) aj rfl) rfl) rfl)) rfl (.inl rfl))
      (@aI _ _ _ _ _ (@cm _ _ _ _ _ _ (@iB _ _ _ _ _ _ _ _ _ _ _ (fk hr.units) iw (bP (fc hr.gd hr.units) eY rfl T.repr PyProof.Rows.boot_repr (@ae _ _ _ _ _ _ _ (af 9) aj rfl)) (bP (fc hr.gd hr.units) eY rfl T.repr PyProof.Rows.boot_repr (@ae _ _ _ _ _ _ _ (@bQ _ _ _ _ _ _ _ _ (@ae _ _ _ _ _ _ _ (af 3) (@ae _ _ _ _ _ _ _ (af 4) (@ae _ _ _ _ _ _ _ (af 5) aj rfl) rfl) rfl)) aj rfl)) (bK _)))))))
theorem bX : a_ ["_law_n", "_law_r", "_law_found", "_law_size"] ["_law_n", "_law_r"] (ay (aR 25)) := ⟨rfl, rfl, rfl, by decide +kernel, rfl, by decide +kernel, by decide +kernel⟩
theorem gi (D : aX K mg "_law_rounds_count" (aR 25)) (T : Blt mg) : Has P w K mg base g "_law_rounds_count" 1 ["_law_n", "_law_r"] bu := by
  obtain ⟨f, fd, hm, F⟩ := D
  refine ⟨f, fd, eV F bX (fun cdv A outer s H E hr => ?_), F.kp, F.binds (fun _ _ _ _ _ _ us hl => qt hl fun _ _ => rfl), hm, br F⟩
  exact (@ar _ _ _ _ _ _ _ (@bD _ _ _ _ _ _ 2 _ _ bX.nd rfl (by first | exact Or.inl rfl | exact Or.inr rfl) (@av _ _ _ _ _ _ _ _ _ _ _ bf ba (@bQ _ _ _ _ _ _ _ _ (@ae _ _ _ _ _ _ _ ao aj rfl)) (@av _ _ _ _ _ _ _ _ _ _ _ b_ cc (@bQ _ _ _ _ _ _ _ _ (@ae _ _ _ _ _ _ _ ao aj rfl)) ao)) rfl (.inl rfl))
      (@ar _ _ _ _ _ _ _ (eZ PassesOwn.never rfl (hE rfl T.range (@ae _ _ _ _ _ _ _ (af 0) aj rfl)) (bE (i := 3) bX.nd rfl (by first | exact Or.inl rfl | exact Or.inr rfl)) dq (@aI _ _ _ _ _ (@bD _ _ _ _ _ _ 2 _ _ bX.nd rfl (by first | exact Or.inl rfl | exact Or.inr rfl) (@av _ _ _ _ _ _ _ _ _ _ _ bf ba (@bQ _ _ _ _ _ _ _ _ (@ae _ _ _ _ _ _ _ (@av _ _ _ _ _ _ _ _ _ _ _ b_ cc (af 3) (@bC _ _ _ _ _ _ _ _ _ _ aT bB (af 2) ao (fun _ _ => rfl))) aj rfl)) (fM (osc := ay (aR 25)) [3, 2] ["_law_at", "_law_size", "_law_found"] rfl rfl rfl rfl (by decide +kernel) ⟨by decide +kernel, by decide +kernel, rfl, by decide +kernel, rfl, by decide +kernel⟩ (g9 rfl T.range (@ae _ _ _ _ _ _ _ ao (@ae _ _ _ _ _ _ _ ao aj rfl) rfl))
        (fun cl C aQ bx fp => ku) (fun cl C aQ bx fp => (@av _ _ _ _ _ _ _ _ _ _ _ bf ba (@av _ _ _ _ _ _ _ _ _ _ _ b_ cc (af 1) (@bC _ _ _ _ _ _ _ _ _ _ aT bB (af 2) (af 0) (fun _ _ => rfl))) (@bC _ _ _ _ _ _ _ _ _ _ aT bB (af 2) (@av _ _ _ _ _ _ _ _ _ _ _ cT cZ (af 0) ao) (fun _ _ => rfl)))))) rfl (.inl rfl))))
      (@aI _ _ _ _ _ (@cm _ _ _ _ _ _ (@bC _ _ _ _ _ _ _ _ _ _ aT bB (af 2) (af 1) (fun _ _ => rfl))))))
theorem bz : a_ ["_law_n", "_law_k", "_law_ahead", "_law_found", "_law_size", "_law_later", "_law_drops"] ["_law_n", "_law_k"] (ay (aR 27)) := ⟨rfl, rfl, rfl, by decide +kernel, rfl, by decide +kernel, by decide +kernel⟩
theorem ia (D : aX K mg "_law_none_count" (aR 27)) (T : Blt mg) : Has P w K mg base g "_law_none_count" 1 ["_law_n", "_law_k"] bG := by
  obtain ⟨f, fd, hm, F⟩ := D
  refine ⟨f, fd, kW (g6 (eV F bz (fun cdv A outer s H E hr => ?_))), F.kp, F.binds (fun _ _ _ _ _ _ us hl => qt hl fun _ _ => rfl), hm, br F⟩
  exact (@ar _ _ _ _ _ _ _ (m7 (i := 2) (j := 3) rfl bz.nd rfl rfl (by decide) (@ae _ _ _ _ _ _ _ (@av _ _ _ _ _ _ _ _ _ _ _ b_ cc (@bQ _ _ _ _ _ _ _ _ (@ae _ _ _ _ _ _ _ ao aj rfl)) ao) (@ae _ _ _ _ _ _ _ (@av _ _ _ _ _ _ _ _ _ _ _ bf ba (@bQ _ _ _ _ _ _ _ _ (@ae _ _ _ _ _ _ _ ao aj rfl)) (@av _ _ _ _ _ _ _ _ _ _ _ b_ cc (@bQ _ _ _ _ _ _ _ _ (@ae _ _ _ _ _ _ _ ao aj rfl)) ao)) aj rfl) rfl))
      (@ar _ _ _ _ _ _ _ (eZ PassesOwn.never rfl (g9 rfl T.range (@ae _ _ _ _ _ _ _ ao (@ae _ _ _ _ _ _ _ (@av _ _ _ _ _ _ _ _ _ _ _ bf ba (af 0) ao) aj rfl) rfl)) (bE (i := 4) bz.nd rfl (by first | exact Or.inl rfl | exact Or.inr rfl)) dq (@ar _ _ _ _ _ _ _ (@bD _ _ _ _ _ _ 5 _ _ bz.nd rfl (by first | exact Or.inl rfl | exact Or.inr rfl) (@av _ _ _ _ _ _ _ _ _ _ _ b_ cc (@bQ _ _ _ _ _ _ _ _ (@ae _ _ _ _ _ _ _ ao aj rfl)) ao) rfl (.inl rfl))
      (@ar _ _ _ _ _ _ _ (eZ PassesOwn.never rfl (g9 rfl T.range (@ae _ _ _ _ _ _ _ ao (@ae _ _ _ _ _ _ _ ao aj rfl) rfl)) (bE (i := 6) bz.nd rfl (by first | exact Or.inl rfl | exact Or.inr rfl)) dq (@aI _ _ _ _ _ (ki (@av _ _ _ _ _ _ _ _ _ _ _ bf ba (@av _ _ _ _ _ _ _ _ _ _ _ bf ba (@av _ _ _ _ _ _ _ _ _ _ _ b_ cc (af 6) (@bC _ _ _ _ _ _ _ _ _ _ aT bB (af 3) (af 6) (fun _ _ => rfl))) (@av _ _ _ _ _ _ _ _ _ _ _ b_ cc (@av _ _ _ _ _ _ _ _ _ _ _ cT cZ (af 4) (af 6)) (@bC _ _ _ _ _ _ _ _ _ _ aT bB (af 3) (@av _ _ _ _ _ _ _ _ _ _ _ cT cZ (af 6) ao) (fun _ _ => rfl)))) (@av _ _ _ _ _ _ _ _ _ _ _ b_ cc (@av _ _ _ _ _ _ _ _ _ _ _ cT cZ (af 4) ao) (@bC _ _ _ _ _ _ _ _ _ _ aT bB (af 2) (@av _ _ _ _ _ _ _ _ _ _ _ cT cZ (af 6) ao) (fun _ _ => rfl)))) (af 5) (af 6) set_list iY)))
      (@aI _ _ _ _ _ (m7 (i := 2) (j := 3) rfl bz.nd rfl rfl (by decide) (@ae _ _ _ _ _ _ _ (af 3) (@ae _ _ _ _ _ _ _ (af 5) aj rfl) rfl))))))
      (@aI _ _ _ _ _ (@cm _ _ _ _ _ _ (@bC _ _ _ _ _ _ _ _ _ _ aT bB (af 3) (af 1) (fun _ _ => rfl))))))
theorem aH : a_ ["_law_n", "_law_r", "_law_k", "_law_found", "_law_size", "_law_later", "_law_rounds", "_law_drops", "_law_many", "_law_there", "_law_ways", "_law_key"] ["_law_n", "_law_r", "_law_k"] (ay (aR 26)) := ⟨rfl, rfl, rfl, by decide +kernel, rfl, by decide +kernel, by decide +kernel⟩
theorem hU (D : aX K mg "_law_both_count" (aR 26)) (T : Blt mg) : Has P w K mg base g "_law_both_count" 1 ["_law_n", "_law_r", "_law_k"] bI := by
  obtain ⟨f, fd, hm, F⟩ := D
  refine ⟨f, fd, kW (g6 (eV F aH (fun cdv A outer s H E hr => ?_))), F.kp, F.binds (fun _ _ _ _ _ _ us hl => qy hl fun _ _ _ => rfl), hm, br F⟩
  exact (@ar _ _ _ _ _ _ _ (@bD _ _ _ _ _ _ 3 _ _ aH.nd rfl (by first | exact Or.inl rfl | exact Or.inr rfl) (uN (un0 hr.units) (@cE _ _ _ _ _ _ _ (@ae _ _ _ _ _ _ _ ao (@ae _ _ _ _ _ _ _ ao aj rfl) rfl)) ao) rfl (.inl rfl))
      (@ar _ _ _ _ _ _ _ (eZ PassesOwn.never rfl (hE rfl T.range (@ae _ _ _ _ _ _ _ (af 0) aj rfl)) (bE (i := 4) aH.nd rfl (by first | exact Or.inl rfl | exact Or.inr rfl)) dq (@ar _ _ _ _ _ _ _ (@bD _ _ _ _ _ _ 5 _ _ aH.nd rfl (by first | exact Or.inl rfl | exact Or.inr rfl) wm rfl (.inl rfl))
      (@ar _ _ _ _ _ _ _ (eZ PassesOwn.never rfl (@fj _ _ _ _ _ _ (fH (bL.frz (lO rfl)) uP rfl T.list PyProof.Rows.boot_list (@ae _ _ _ _ _ _ _ (af 3) aj rfl))) (nu rfl (dy (bE (i := 6) aH.nd rfl (by first | exact Or.inl rfl | exact Or.inr rfl)) (dy (bE (i := 7) aH.nd rfl (by first | exact Or.inl rfl | exact Or.inr rfl)) kj))) qj (@ar _ _ _ _ _ _ _ (@bD _ _ _ _ _ _ 8 _ _ aH.nd rfl (by first | exact Or.inl rfl | exact Or.inr rfl) (w8 (un1 hr.units) (af 3) (@cE _ _ _ _ _ _ _ (@ae _ _ _ _ _ _ _ (af 6) (@ae _ _ _ _ _ _ _ (af 7) aj rfl) rfl)) (fun _ _ => rfl)) rfl (.inl rfl))
      (@aI _ _ _ _ _ (eZ PassesOwn.never rfl (@fj _ _ _ _ _ _ (@bQ _ _ _ _ _ _ _ _ (@ae _ _ _ _ _ _ _ (@cE _ _ _ _ _ _ _ (@ae _ _ _ _ _ _ _ (@cE _ _ _ _ _ _ _ (@ae _ _ _ _ _ _ _ ao (@ae _ _ _ _ _ _ _ ao aj rfl) rfl)) (@ae _ _ _ _ _ _ _ ao aj rfl) rfl)) (@ae _ _ _ _ _ _ _ (@cE _ _ _ _ _ _ _ (@ae _ _ _ _ _ _ _ (@cE _ _ _ _ _ _ _ (@ae _ _ _ _ _ _ _ ao (@ae _ _ _ _ _ _ _ ao aj rfl) rfl)) (@ae _ _ _ _ _ _ _ (af 7) aj rfl) rfl)) (@ae _ _ _ _ _ _ _ (@cE _ _ _ _ _ _ _ (@ae _ _ _ _ _ _ _ (@cE _ _ _ _ _ _ _ (@ae _ _ _ _ _ _ _ ao (@ae _ _ _ _ _ _ _ ao aj rfl) rfl)) (@ae _ _ _ _ _ _ _ (@av _ _ _ _ _ _ _ _ _ _ _ cT cZ (af 4) (af 7)) aj rfl) rfl)) aj rfl) rfl) rfl))) (nu rfl (dy (bE (i := 9) aH.nd rfl (by first | exact Or.inl rfl | exact Or.inr rfl)) (dy (bE (i := 10) aH.nd rfl (by first | exact Or.inl rfl | exact Or.inr rfl)) kj))) qj (@ar _ _ _ _ _ _ _ (@bD _ _ _ _ _ _ 11 _ _ aH.nd rfl (by first | exact Or.inl rfl | exact Or.inr rfl) (@cE _ _ _ _ _ _ _ (@ae _ _ _ _ _ _ _ (@av _ _ _ _ _ _ _ _ _ _ _ bf ba (af 6) (@bC _ _ _ _ _ _ _ _ _ _ aT bB (af 9) ao (fun _ _ => rfl))) (@ae _ _ _ _ _ _ _ (@av _ _ _ _ _ _ _ _ _ _ _ bf ba (af 7) (@bC _ _ _ _ _ _ _ _ _ _ aT bB (af 9) ao (fun _ _ => rfl))) aj rfl) rfl)) rfl (.inl rfl))
      (@aI _ _ _ _ _ (za (un1 hr.units) (@av _ _ _ _ _ _ _ _ _ _ _ bf ba (ou (un1 hr.units) (af 5) (af 11) ao ⟨rfl, rfl, rfl, rfl⟩) (@av _ _ _ _ _ _ _ _ _ _ _ b_ cc (af 8) (af 10))) (af 5) (af 11))))))))
      (@aI _ _ _ _ _ (@bD _ _ _ _ _ _ 3 _ _ aH.nd rfl (by first | exact Or.inl rfl | exact Or.inr rfl) (af 5) rfl (.inl rfl))))))
      (@aI _ _ _ _ _ (@cm _ _ _ _ _ _ (ou (un1 hr.units) (af 3) (@cE _ _ _ _ _ _ _ (@ae _ _ _ _ _ _ _ (af 1) (@ae _ _ _ _ _ _ _ (af 2) aj rfl) rfl)) ao ⟨rfl, rfl, rfl, rfl⟩)))))
theorem fE : a_ ["_law_script", "_law_cell", "_law_pen", "_law_n", "_law_r", "_law_k", "_law_one", "_law_other", "_law_due"] ["_law_script"] (ay (aR 28)) := ⟨rfl, rfl, rfl, by decide +kernel, rfl, by decide +kernel, by decide +kernel⟩
theorem wo (D : aX K mg "law" (aR 28)) (T : Blt mg) (dD : Has P w K mg base g "_law_cell_at" 1 ["_law_script", "_law_k"] bR) (d9 : Has P w K mg base g "_law_pen_of" 1 ["_law_cell"] cx) (fh : Has P w K mg base g "_law_draw" 2 ["_law_pen", "_law_many"] ax) (cG : Has P w K mg base g "_law_small_right" 6 ["_law_n", "_law_r", "_law_k"] aV) (bN : Has P w K mg base g "rounds_count" 4 ["n", "r"] aW) (cz : Has P w K mg base g "_law_rounds_count" 1 ["_law_n", "_law_r"] bu) (b9 : Has P w K mg base g "none_count" 4 ["n", "k"] bJ) (cP : Has P w K mg base g "_law_none_count" 1 ["_law_n", "_law_k"] bG) (cN : Has P w K mg base g "_law_both_count" 1 ["_law_n", "_law_r", "_law_k"] bI) (cf : Has P w K mg base g "both_count" 5 ["n", "r", "k"] bt) : Has P w K mg base g "law" 7 ["_law_script"] kQ := by
  obtain ⟨f, fd, hm, F⟩ := D
  obtain ⟨rM, qS, ju, jM, jA, jO, _⟩ := dD
  obtain ⟨sS, rG, kg, j3, jY, jZ, _⟩ := d9
  obtain ⟨vk, vf, bp, bj, bo, bq, _⟩ := fh
  obtain ⟨pA, oi, dU, dS, dN, dQ, _⟩ := cG
  obtain ⟨jH, je, dA, dJ, dz, dC, _⟩ := bN
  obtain ⟨og, nj, gq, gr, gk, gp, _⟩ := cz
  obtain ⟨lg, ke, eD, eG, eJ, eB, _⟩ := b9
  obtain ⟨pT, oE, hX, h_, hV, hZ, _⟩ := cP
  obtain ⟨pS, pO, hJ, hG, h7, ib, _⟩ := cN
  obtain ⟨kI, kf, eT, eP, eN, eM, _⟩ := cf
  refine ⟨f, fd, g6 (eV F fE (fun cdv A outer s H E hr => ?_)), F.kp, F.binds (fun _ _ _ _ _ _ us hl => pU hl fun _ => rfl), hm, br F⟩
  exact (@ar _ _ _ _ _ _ _ (eZ PassesOwn.never rfl (@fj _ _ _ _ _ _ (@av _ _ _ _ _ _ _ _ _ _ _ bf ba (@bQ _ _ _ _ _ _ _ _ (@ae _ _ _ _ _ _ _ (aC (ju.mono (by decide)) hr rfl jO jM jA (@ae _ _ _ _ _ _ _ (af 0) (@ae _ _ _ _ _ _ _ ao aj rfl) rfl) (ai (ai aB))) aj rfl)) (ur (af 0) (@qM _ _ _ _ _ ao) (@qM _ _ _ _ _ ao)))) (bE (i := 1) fE.nd rfl (by first | exact Or.inl rfl | exact Or.inr rfl)) dq (@ar _ _ _ _ _ _ _ (@bD _ _ _ _ _ _ 2 _ _ fE.nd rfl (by first | exact Or.inl rfl | exact Or.inr rfl) (aC (kg.mono (by decide)) hr rfl jZ j3 jY (@ae _ _ _ _ _ _ _ (af 1) aj rfl) (ai aB)) rfl (.inl rfl))
      (@ar _ _ _ _ _ _ _ (yU (i := 3) (j := 4) (k := 5) rfl fE.nd rfl rfl rfl (by decide) (by decide) (by decide) (@ae _ _ _ _ _ _ _ (@av _ _ _ _ _ _ _ _ _ _ _ bf ba ao (aC (bp.mono (by decide)) hr rfl bq bj bo (@ae _ _ _ _ _ _ _ (af 2) (@ae _ _ _ _ _ _ _ ao aj rfl) rfl) (ai (ai aB)))) (@ae _ _ _ _ _ _ _ (aC (bp.mono (by decide)) hr rfl bq bj bo (@ae _ _ _ _ _ _ _ (af 2) (@ae _ _ _ _ _ _ _ ao aj rfl) rfl) (ai (ai aB))) (@ae _ _ _ _ _ _ _ (aC (bp.mono (by decide)) hr rfl bq bj bo (@ae _ _ _ _ _ _ _ (af 2) (@ae _ _ _ _ _ _ _ ao aj rfl) rfl) (ai (ai aB))) aj rfl) rfl) rfl))
      (@ar _ _ _ _ _ _ _ (@qb _ _ _ _ _ _ _ _ _ _ (PW.pt (@Ap _ _ _ _ _ _ _ _ _ (@qA _ _ _ _ _ _ (@kD _ _ _ _ _ _ qf (aC (dU.mono (by decide)) hr rfl dQ dS dN (@ae _ _ _ _ _ _ _ (af 3) (@ae _ _ _ _ _ _ _ (af 4) (@ae _ _ _ _ _ _ _ (af 5) aj rfl) rfl) rfl) (ai (ai (ai aB)))) (fun _ => rfl))) (@yY _ _ _ _ _ _ (@qA _ _ _ _ _ _ (@kD _ _ _ _ _ _ qf (aC (dU.mono (by decide)) hr rfl dQ dS dN (@ae _ _ _ _ _ _ _ ao (@ae _ _ _ _ _ _ _ (af 4) (@ae _ _ _ _ _ _ _ (af 5) aj rfl) rfl) rfl) (ai (ai (ai aB)))) (fun _ => rfl)))))) (@aI _ _ _ _ _ (@cm _ _ _ _ _ _ pM)) f7)
      (@ar _ _ _ _ _ _ _ (@bD _ _ _ _ _ _ 3 _ _ fE.nd rfl (by first | exact Or.inl rfl | exact Or.inr rfl) (@av _ _ _ _ _ _ _ _ _ _ _ bf ba ao (aC (bp.mono (by decide)) hr rfl bq bj bo (@ae _ _ _ _ _ _ _ (af 2) (@ae _ _ _ _ _ _ _ ao aj rfl) rfl) (ai (ai aB)))) rfl (.inl rfl))
      (@ar _ _ _ _ _ _ _ (@bD _ _ _ _ _ _ 5 _ _ fE.nd rfl (by first | exact Or.inl rfl | exact Or.inr rfl) (@bC _ _ _ _ _ _ _ _ _ _ aT bB (@bQ _ _ _ _ _ _ _ _ (@ae _ _ _ _ _ _ _ (aC (bp.mono (by decide)) hr rfl bq bj bo (@ae _ _ _ _ _ _ _ (af 2) (@ae _ _ _ _ _ _ _ (af 3) aj rfl) rfl) (ai (ai aB))) (@ae _ _ _ _ _ _ _ (aC (bp.mono (by decide)) hr rfl bq bj bo (@ae _ _ _ _ _ _ _ (af 2) (@ae _ _ _ _ _ _ _ ao aj rfl) rfl) (ai (ai aB))) aj rfl) rfl)) (aC (bp.mono (by decide)) hr rfl bq bj bo (@ae _ _ _ _ _ _ _ (af 2) (@ae _ _ _ _ _ _ _ ao aj rfl) rfl) (ai (ai aB))) (fun _ _ => rfl)) rfl (.inl rfl))
      (@ar _ _ _ _ _ _ _ (@bD _ _ _ _ _ _ 4 _ _ fE.nd rfl (by first | exact Or.inl rfl | exact Or.inr rfl) (@bC _ _ _ _ _ _ _ _ _ _ aT bB (@bQ _ _ _ _ _ _ _ _ (@ae _ _ _ _ _ _ _ (@av _ _ _ _ _ _ _ _ _ _ _ bf ba ao (aC (bp.mono (by decide)) hr rfl bq bj bo (@ae _ _ _ _ _ _ _ (af 2) (@ae _ _ _ _ _ _ _ (af 3) aj rfl) rfl) (ai (ai aB)))) (@ae _ _ _ _ _ _ _ (aC (bp.mono (by decide)) hr rfl bq bj bo (@ae _ _ _ _ _ _ _ (af 2) (@ae _ _ _ _ _ _ _ ao aj rfl) rfl) (ai (ai aB))) aj rfl) rfl)) (aC (bp.mono (by decide)) hr rfl bq bj bo (@ae _ _ _ _ _ _ _ (af 2) (@ae _ _ _ _ _ _ _ ao aj rfl) rfl) (ai (ai aB))) (fun _ _ => rfl)) rfl (.inl rfl))
      (@ar _ _ _ _ _ _ _ (@qb _ _ _ _ _ _ _ _ _ _ (@cq _ _ _ _ _ _ _ _ _ _ _ (mR hr.units) qJ (bP (fc hr.gd hr.units) eY rfl T.repr PyProof.Rows.boot_repr (@ae _ _ _ _ _ _ _ (aC (dA.mono (by decide)) hr rfl dC dJ dz (@ae _ _ _ _ _ _ _ (af 3) (@ae _ _ _ _ _ _ _ (af 4) aj rfl) rfl) (ai (ai aB))) aj rfl)) (bP (fc hr.gd hr.units) eY rfl T.repr PyProof.Rows.boot_repr (@ae _ _ _ _ _ _ _ (aC (gq.mono (by decide)) hr rfl gp gr gk (@ae _ _ _ _ _ _ _ (af 3) (@ae _ _ _ _ _ _ _ (af 4) aj rfl) rfl) (ai (ai aB))) aj rfl)) (bK _)) (@aI _ _ _ _ _ (@cm _ _ _ _ _ _ pM)) f7)
      (@ar _ _ _ _ _ _ _ (@qb _ _ _ _ _ _ _ _ _ _ (@cq _ _ _ _ _ _ _ _ _ _ _ (mR hr.units) qJ (bP (fc hr.gd hr.units) eY rfl T.repr PyProof.Rows.boot_repr (@ae _ _ _ _ _ _ _ (aC (eD.mono (by decide)) hr rfl eB eG eJ (@ae _ _ _ _ _ _ _ (af 3) (@ae _ _ _ _ _ _ _ (af 5) aj rfl) rfl) (ai (ai aB))) aj rfl)) (bP (fc hr.gd hr.units) eY rfl T.repr PyProof.Rows.boot_repr (@ae _ _ _ _ _ _ _ (aC (hX.mono (by decide)) hr rfl hZ h_ hV (@ae _ _ _ _ _ _ _ (af 3) (@ae _ _ _ _ _ _ _ (af 5) aj rfl) rfl) (ai (ai aB))) aj rfl)) (bK _)) (@aI _ _ _ _ _ (@cm _ _ _ _ _ _ pM)) f7)
      (@aI _ _ _ _ _ (eZ PassesOwn.never rfl (@fj _ _ _ _ _ _ (@bQ _ _ _ _ _ _ _ _ (@ae _ _ _ _ _ _ _ (@cE _ _ _ _ _ _ _ (@ae _ _ _ _ _ _ _ (af 4) (@ae _ _ _ _ _ _ _ (af 5) aj rfl) rfl)) (@ae _ _ _ _ _ _ _ (@cE _ _ _ _ _ _ _ (@ae _ _ _ _ _ _ _ ao (@ae _ _ _ _ _ _ _ (af 5) aj rfl) rfl)) (@ae _ _ _ _ _ _ _ (@cE _ _ _ _ _ _ _ (@ae _ _ _ _ _ _ _ (af 4) (@ae _ _ _ _ _ _ _ ao aj rfl) rfl)) (@ae _ _ _ _ _ _ _ (@cE _ _ _ _ _ _ _ (@ae _ _ _ _ _ _ _ (@av _ _ _ _ _ _ _ _ _ _ _ cT cZ (af 3) (af 5)) (@ae _ _ _ _ _ _ _ (af 5) aj rfl) rfl)) aj rfl) rfl) rfl) rfl))) (nu rfl (dy (bE (i := 6) fE.nd rfl (by first | exact Or.inl rfl | exact Or.inr rfl)) (dy (bE (i := 7) fE.nd rfl (by first | exact Or.inl rfl | exact Or.inr rfl)) kj))) qj (@ar _ _ _ _ _ _ _ (@bD _ _ _ _ _ _ 8 _ _ fE.nd rfl (by first | exact Or.inl rfl | exact Or.inr rfl) (aC (hJ.mono (by decide)) hr rfl ib hG h7 (@ae _ _ _ _ _ _ _ (af 3) (@ae _ _ _ _ _ _ _ (af 6) (@ae _ _ _ _ _ _ _ (af 7) aj rfl) rfl) rfl) (ai (ai (ai aB)))) rfl (.inl rfl))
      (@aI _ _ _ _ _ (@qb _ _ _ _ _ _ _ _ _ _ (PW.pt (@m_ _ _ _ _ _ _ _ _ _ (@cq _ _ _ _ _ _ _ _ _ _ _ xG xm (af 6) ao (bK _)) (@kn _ _ _ _ _ _ (@cq _ _ _ _ _ _ _ _ _ _ _ (mR hr.units) qJ (bP (fc hr.gd hr.units) eY rfl T.repr PyProof.Rows.boot_repr (@ae _ _ _ _ _ _ _ (aC (eT.mono (by decide)) hr rfl eM eP eN (@ae _ _ _ _ _ _ _ (af 3) (@ae _ _ _ _ _ _ _ (af 6) (@ae _ _ _ _ _ _ _ (af 7) aj rfl) rfl) rfl) (ai (ai (ai aB)))) aj rfl)) (bP (fc hr.gd hr.units) eY rfl T.repr PyProof.Rows.boot_repr (@ae _ _ _ _ _ _ _ (af 8) aj rfl)) (bK _))))) (@aI _ _ _ _ _ (@cm _ _ _ _ _ _ pM)) f7))))))))))))))
      (@aI _ _ _ _ _ (@cm _ _ _ _ _ _ pM)))
end
structure Text (K : PySem.W.Frag) : Prop where
  eQ : cA K "_law_cell_at" (aR 18)
  fw : cA K "_law_pen_of" (aR 20)
  gT : cA K "_law_next" (aR 19)
  gS : cA K "_law_draw" (aR 21)
  iJ : cA K "_law_all" (aR 22)
  cY : cA K "_law_rounds_many" (aR 23)
  iH : cA K "is_whole" (aR 4)
  gy : cA K "is_within" (aR 5)
  dZ : cA K "number_needed" (aR 6)
  gw : cA K "both_next" (aR 15)
  gJ : cA K "both_rows" (aR 14)
  eL : cA K "rounds_count" (aR 9)
  d8 : cA K "counts_needed" (aR 12)
  eF : cA K "both_counted" (aR 13)
  fU : cA K "both_count" (aR 10)
  iF : cA K "none_row" (aR 16)
  fX : cA K "none_count" (aR 11)
  cW : cA K "_law_small_right" (aR 24)
  cQ : cA K "_law_rounds_count" (aR 25)
  dj : cA K "_law_none_count" (aR 27)
  du : cA K "_law_both_count" (aR 26)
  uZ : cA K "law" (aR 28)
  pX : PySem.W.nsIn K mainGlobals "bool" = some none
  t5 : PySem.W.nsIn K mainGlobals "int" = some none
  fR : PySem.W.nsIn K mainGlobals "isinstance" = some none
  uj : PySem.W.nsIn K mainGlobals "len" = some none
  qk : PySem.W.nsIn K mainGlobals "list" = some none
  tI : PySem.W.nsIn K mainGlobals "max" = some none
  ny : PySem.W.nsIn K mainGlobals "range" = some none
  qz : PySem.W.nsIn K mainGlobals "repr" = some none
  uc : PySem.W.nsIn K mainGlobals "sum" = some none
  cD : ∃ t, PySem.W.nsIn K mainGlobals "MOST_NUMBERS" = some (some (Value.int 20 t))
theorem all_mk {P : Program} {w : World} {K : PySem.W.Frag} {h : Heap} {mg : Str -> Option Value} {fa : Addr} (X : K.In h) (G : h.Ns mainGlobals mg) (hfa : mg "law" = some (.ref fa)) (t : Text K) :
    ∃ fd : FuncData, (∀ (s : Shared) (v : Value), BindsTo s fd ⟨[v], []⟩ [("_law_script", v)]) /\ ∀ base : Heap, K.In base -> base.Ns mainGlobals mg -> eC P w K mg base CX0 7 fa fd ["_law_script"] (spM K (gOf mg) 1 kQ) := by
  have T : Blt mg := ⟨PySem.W.mg_none_of X G t.pX, PySem.W.mg_none_of X G t.t5, PySem.W.mg_none_of X G t.fR, PySem.W.mg_none_of X G t.uj, PySem.W.mg_none_of X G t.qk, PySem.W.mg_none_of X G t.tI, PySem.W.mg_none_of X G t.ny, PySem.W.mg_none_of X G t.qz, PySem.W.mg_none_of X G t.uc⟩
  obtain ⟨bF, cD⟩ := t.cD
  have aA := PySem.W.mg_of X G cD
  have kC := aX.of X G t.eQ
  have lL := aX.of X G t.fw
  have oH := aX.of X G t.gT
  have o4 := aX.of X G t.gS
  have qg := aX.of X G t.iJ
  have iC := aX.of X G t.cY
  have pV := aX.of X G t.iH
  have oP := aX.of X G t.gy
  have j5 := aX.of X G t.dZ
  have oJ := aX.of X G t.gw
  have pL := aX.of X G t.gJ
  have kA := aX.of X G t.eL
  have j6 := aX.of X G t.d8
  have k7 := aX.of X G t.eF
  have nS := aX.of X G t.fU
  have qx := aX.of X G t.iF
  have nc := aX.of X G t.fX
  have iI := aX.of X G t.cW
  have h8 := aX.of X G t.cQ
  have jm := aX.of X G t.dj
  have ji := aX.of X G t.du
  have AY := aX.of X G t.uZ
  obtain ⟨f, fd, hm, F⟩ := AY
  have e := hfa.symm.trans hm
  cases e
  refine ⟨fd, ?_, fun base _ _ => ?_⟩
  · obtain ⟨oc, od, kV, doc, pm, an, cdv, ct, osl, rfl, lk, hcd⟩ := F.ex
    exact fun s v => .of_eq rfl
  · have dD := jt (P := P) (w := w) (base := base) (g := gOf mg) kC T
    have d9 := j9 (P := P) (w := w) (base := base) (g := gOf mg) lL T
    have fi := lM (P := P) (w := w) (base := base) (g := gOf mg) oH T
    have fh := lI (P := P) (w := w) (base := base) (g := gOf mg) o4 T fi
    have fQ := mU (P := P) (w := w) (base := base) (g := gOf mg) qg T
    have cF := gK (P := P) (w := w) (base := base) (g := gOf mg) iC T
    have f6 := n6 (P := P) (w := w) (base := base) (g := gOf mg) pV T
    have fo := lE (P := P) (w := w) (base := base) (g := gOf mg) oP T f6
    have aG := iV (P := P) (w := w) (base := base) (g := gOf mg) j5 T fo
    have fu := lB (P := P) (w := w) (base := base) (g := gOf mg) oJ T
    have cy := lG (P := P) (w := w) (base := base) (g := gOf mg) pL T fu
    have bN := jC (P := P) (w := w) (base := base) (g := gOf mg) kA T aA aG cy
    have dh := jb (P := P) (w := w) (base := base) (g := gOf mg) j6 T aA aG
    have dI := jo (P := P) (w := w) (base := base) (g := gOf mg) k7 T cy
    have cf := kT (P := P) (w := w) (base := base) (g := gOf mg) nS T aA aG dh dI
    have fY := nT (P := P) (w := w) (base := base) (g := gOf mg) qx T
    have b9 := k6 (P := P) (w := w) (base := base) (g := gOf mg) nc T aA aG fY
    have cG := gv (P := P) (w := w) (base := base) (g := gOf mg) iI T fQ cF bN cf b9
    have cz := gi (P := P) (w := w) (base := base) (g := gOf mg) h8 T
    have cP := ia (P := P) (w := w) (base := base) (g := gOf mg) jm T
    have cN := hU (P := P) (w := w) (base := base) (g := gOf mg) ji T
    have wN := wo (P := P) (w := w) (base := base) (g := gOf mg) ⟨_, _, hm, F⟩ T dD d9 fh cG bN cz b9 cP cN cf
    exact yf F hm wN
theorem walk {l : PySem.W.OpenLaw} {q : Program} {loose : List Str} {XP : (Str -> Option Value) -> Heap -> Prop} {YP : World -> Heap -> Prop} {d : DefRec} {K : Params -> PySem.W.Frag} (hn : l.most = some 63) (hdf : d.params.defaults = [])
    (hY : ∀ (w : World) (h : Heap), YP w h -> (K w.params).In h)
    (ok : ∀ ns : List Int, ns.length <= 63 -> ∃ h, kQ [.scr (ns.map D.int)] [] = .ok (.bl true) h)
    (F : ∀ (w : World) (mg : Str -> Option Value) (fa : Addr) (h : Heap), (K w.params).In h -> h.Ns mainGlobals mg -> mg d.name = some (.ref fa) →
      ∃ fd : FuncData, (∀ (s : Shared) (u : Value), BindsTo s fd ⟨[u], []⟩ [("_law_script", u)]) /\ ∀ base : Heap, (K w.params).In base -> base.Ns mainGlobals mg -> eC l.prog w (K w.params) mg base CX0 7 fa fd ["_law_script"] (spM (K w.params) (gOf mg) 1 kQ)) :
    PySem.W.WalkO q loose XP YP l.row.toRowW d [] (fun f vs => PySem.call f vs) :=
  yb (k := 7) hn hdf ⟨rfl, by decide, by decide, rfl⟩ hY ok F
theorem jw {i : Int} (h1 : -(10 ^ 30) <= i) (h2 : i <= 10 ^ 30) : sml i = true := dE (Nat.le_trans (show i.natAbs <= 10 ^ 30 by omega) (by decide +kernel))
theorem x9 {h : Hh} {n : Nat} {ds : List D} (e : aD h n = some ds) : n < h.length := by
  unfold aD at e
  by_cases hl : n < h.length
  · exact hl
  · rw [List.getElem?_eq_none (by omega)] at e; cases e
theorem rf {h : Hh} {n : Nat} {ds es : List D} (e : aD h n = some ds) : aD (h.set n (.lst es)) n = some es := by
  unfold aD; rw [List.getElem?_set_self (x9 e)]
structure Pen where
  a : Int
  b : Int
  s : Int
noncomputable abbrev fq (p : Pen) : List D := [.int p.a, .int p.b, .int p.s]
noncomputable def nxt (x : Int) : Int := ((x + 7919) % 2147483647 * ((x + 7919) % 2147483647) + 48271 * ((x + 7919) % 2147483647) + 12345) % 2147483629
noncomputable def gH (p : Pen) (m : Int) : Int := if p.b = 1 /\ 0 < p.a then p.a % m else nxt (nxt p.s + 7) / 64 % m
noncomputable def cB (p : Pen) (m : Int) : Pen := if p.b = 1 /\ 0 < p.a then ⟨p.a / m, p.b, p.s⟩ else ⟨p.a, p.b, nxt (nxt p.s + 7)⟩
theorem wI (p : Pen) {m : Int} (h : 0 < m) : 0 <= gH p m := by unfold gH; split <;> exact Int.emod_nonneg _ (by omega)
theorem tQ (p : Pen) {m : Int} (h : 0 < m) : gH p m < m := by unfold gH; split <;> exact Int.emod_lt_of_pos _ h
@[simp] theorem Cy {x : Int} {h : Hh} : c_ [.int x] h = .ok (.int (nxt x)) h := by
  have h1 : 0 <= (x + 7919) % 2147483647 := Int.emod_nonneg _ (by decide)
  have h2 : (x + 7919) % 2147483647 < 2147483647 := Int.emod_lt_of_pos _ (by decide)
  have s1 : sml ((x + 7919) % 2147483647) = true := jw (by omega) (by omega)
  have s2 : sml 48271 = true := by decide +kernel
  simp [c_, bW, s1, s2, nxt]
theorem yR {p : Pen} {m : Int} {h : Hh} {n : Nat} (e : aD h n = some (fq p)) (hm : 0 < m) (hm2 : m <= 10 ^ 20) : ax [.ref n, .int m] h = .ok (.int (gH p m)) (h.set n (.lst (fq (cB p m)))) := by
  have s1 : sml m = true := jw (by omega) (by omega)
  have s2 : sml 64 = true := by decide +kernel
  have i2 : ∀ (x y z : Int) (h : Hh), ixK [D.int x, .int y, .int z] 2 h = .ok (.int z) h := fun _ _ _ _ => rfl
  have n0 : ixN (fq p).length 0 = some 0 := rfl
  have n2 : ixN (fq p).length 2 = some 2 := rfl
  by_cases c : p.b = 1
  · by_cases c2 : 0 < p.a
    · simp [ax, bW, kZ e, c, c2, hm, s1, iZ e n0, gH, cB]
    · simp [ax, bW, kZ e, c, c2, i2, iZ e n2, kZ (rf e), s1, s2, hm, gH, cB]
  · simp [ax, bW, kZ e, c, i2, iZ e n2, kZ (rf e), s1, s2, hm, gH, cB]
@[simp] theorem g7 {p : Pen} {m : Int} {h t : Hh} (hm : 0 < m /\ m <= 10 ^ 20) : ax [.ref h.length, .int m] (h ++ .lst (fq p) :: t) = .ok (.int (gH p m)) (h ++ .lst (fq (cB p m)) :: t) := by
  rw [yR g_ hm.1 hm.2, nJ]
noncomputable def mw (c : Int) : Pen := ⟨max c (0 - c), if max c (0 - c) ≥ 10 ^ 18 then 1 else 0, max c (0 - c) % 1000003⟩
@[simp] theorem CG {c : Int} {h : Hh} : cx [.int c] h = .ok (.ref h.length) (h ++ [.lst (fq (mw c))]) := by
  have s1 : sml 10 = true := by decide +kernel
  simp [cx, bW, s1, mw]
@[simp] theorem Bp {ns : List Int} {h : Hh} : bR [.scr (ns.map D.int), .int 0] h = .ok (.int (ns.headD 0)) h := by
  cases ns with
  | nil => simp [bR, bW]
  | cons c r => simp [bR, bW]
@[simp] theorem Bj {i : Int} {h : Hh} : eA [.int i] h = .ok (.bl true) h := by simp [eA, bW]
@[simp] theorem Al {i a b : Int} {h : Hh} : dP [.int i, .int a, .int b] h = .ok (.bl (decide (a <= i /\ i <= b))) h := by
  by_cases z : a <= i <;> simp [dP, bW, z]
@[simp] theorem dv {i a b : Int} {h : Hh} (hi : a <= i /\ i <= b) : aF [.int i, .int a, .int b] h = .ok .non h := by
  simp [aF, bW, hi]
structure Ord (n : Nat) (xs : List Int) : Prop where
  len : xs.length = n
  nd : xs.Nodup
  lo : ∀ x ∈ xs, 0 <= x
  hi : ∀ x ∈ xs, x < n
noncomputable def kG (lo : Int) (n : Nat) : List Int := (List.range n).map fun (i : Nat) => lo + i
theorem wj (lo : Int) (n : Nat) : aP lo n = (kG lo n).map D.int := by simp [aP, kG, List.map_map]
theorem kY (lo : Int) (n : Nat) : (kG lo n).length = n := by simp [kG]
theorem uJ (n : Nat) : Ord n (kG 0 n) := by
  refine ⟨kY _ _, ?_, ?_, ?_⟩
  · unfold kG List.Nodup
    rw [List.pairwise_map]
    exact List.Pairwise.imp (fun {a b} h e => h (by omega)) List.nodup_range
  · intro x hx; simp [kG] at hx; omega
  · intro x hx; simp [kG] at hx; omega
noncomputable def pf {X : Type} (xs : List X) (lo hi : Option Int) : List X := (xs.drop (HT.sIx xs.length 0 lo)).take (HT.sIx xs.length xs.length hi - HT.sIx xs.length 0 lo)
theorem uM {X : Type} (f : X -> D) (xs : List X) (lo hi : Option Int) : cutD (xs.map f) lo hi = (pf xs lo hi).map f := by
  unfold cutD pf
  rw [List.length_map, List.map_take, List.map_drop]
noncomputable def shL (ns : List Int) : Str := PyData.shown (.list (ns.map PyData.int))
theorem kM {k : Nat} {h : Hh} : ∀ {ns : List Int}, (∀ x ∈ ns, sml x = true) -> gc (toPy (k + 1) h) (ns.map D.int) = some (ns.map PyData.int)
  | [], _ => rfl
  | n :: r, hs => by
    have h1 : sml n = true := hs n List.mem_cons_self
    rw [List.map_cons, gc, kM (ns := r) fun x hx => hs x (List.mem_cons_of_mem _ hx)]
    simp [toPy, h1]
theorem mm : ∀ ns : List Int, PyData.bulkAll (ns.map PyData.int) = ns.length
  | [] => rfl
  | n :: r => by rw [List.map_cons, PyData.bulkAll, mm r, PyData.bulk, List.length_cons]; omega
theorem xg {h : Hh} {ns : List Int} (hs : ∀ x ∈ ns, sml x = true) (hl : ns.length <= 8000) : de [.frl (ns.map D.int)] h = .ok (.str (shL ns)) h := by
  have e1 : toPy 12 h (.frl (ns.map D.int)) = some (.list (ns.map PyData.int)) := by
    show (gc (toPy (10 + 1) h) (ns.map D.int)).map PyData.list = _
    rw [kM hs]; rfl
  have e2 : PyData.bulk (.list (ns.map PyData.int)) <= 8000 := by rw [PyData.bulk, mm]; exact hl
  show qa (.frl (ns.map D.int)) h = _
  delta qa; rw [e1]; exact if_pos e2
theorem nM (i : Int) : ∀ ns : List Int, ((ns.map D.int).any fun d => eqF d (.int i)) = ns.any (· == i)
  | [] => rfl
  | n :: r => by rw [List.map_cons, List.any_cons, List.any_cons, nM i r]; rfl
theorem mN (ns : List Int) : (ns.map D.int).all ef = true := by simp [ef]
@[simp] theorem C7 {neg : Bool} {i : Int} {ns : List Int} {h : Hh} : dIn neg (.int i) (.tup (ns.map D.int)) h = .ok (.bl (if neg then !(ns.any (· == i)) else ns.any (· == i))) h := by
  simp only [dIn, gf, ef, mN, and_self, if_true, nM]
theorem g8 {i : Int} (h0 : 0 <= i) (h : i <= 1000000) : sml i = true := jw (by omega) (by omega)
theorem zH {h : Hh} (w : Wf h) (p : Pen) : Wf (h ++ [.lst (fq p)]) := w.app rfl
theorem iu (p : Pen) (m : Int) (h : 0 < m) : ∃ k : Nat, gH p m = (k : Int) /\ (k : Int) < m := by
  have h0 := wI p h
  have h1 := tQ p h
  exact ⟨(gH p m).toNat, by omega, by omega⟩
theorem sv (ns : List Int) (lo hi : Option Int) : cutD (ns.map D.int) lo hi = (pf ns lo hi).map D.int := uM _ _ _ _
theorem xa {X : Type} (xs : List X) (lo hi : Option Int) : (pf xs lo hi).length <= xs.length := by
  unfold pf; rw [List.length_take, List.length_drop]; omega
theorem xN {xs ys : List Int} (h : xs.length = ys.length) (e : ∀ i, i < xs.length -> gI xs i = gI ys i) : xs = ys := by
  refine List.ext_getElem h fun i h1 h2 => ?_
  have := e i h1
  rwa [gg h1, gg h2] at this
theorem fO {σ : Type} {tg : D -> En -> Hh -> R En} {body : MS} (enc : Nat -> D) (N : Nat) (E : σ -> En) (G : σ -> Hh) (I : Nat -> σ -> Prop)
    (st : ∀ i s, i < N -> I i s -> ∃ s', I (i + 1) s' /\ (tg (enc i) (E s) (G s)).bind body = .ok (.nx (E s')) (G s')) :
    ∀ (k i : Nat) (s : σ), i + k = N -> I i s -> ∃ s', dW tg body ((List.range' i k).map enc) (E s) (G s) = .ok (.nx (E s')) (G s') /\ I N s' := by
  intro k
  induction k with
  | zero =>
    intro i s e hi
    have : i = N := by omega
    subst this
    exact ⟨s, rfl, hi⟩
  | succ k ih =>
    intro i s e hi
    obtain ⟨s1, a, b⟩ := st i s (by omega) hi
    obtain ⟨s2, c, d⟩ := ih (i + 1) s1 (by omega) a
    refine ⟨s2, ?_, d⟩
    rw [List.range'_succ, List.map_cons, dW, <- cI, b]
    exact c
theorem uV (n : Nat) : aP 0 n = (List.range' 0 n).map fun (i : Nat) => D.int i := by rw [gW, List.range_eq_range']
noncomputable def g2 (L : List (List Int)) (r k : Nat) : Int := gI (L.getD r []) k
noncomputable def fS (n : Nat) (f : Nat -> Nat -> Int) : List (List Int) := (List.range (n + 1)).map fun r => (List.range (n + 1)).map (f r)
noncomputable def bnI (s : Nat) (T : Nat -> Nat -> Int) (r k : Nat) : Int := (if 0 < r then T (r - 1) k else 0) + (k : Int) * T r k + (if 0 < k then ((s : Int) - k) * T r (k - 1) else 0)
noncomputable def BT (n : Nat) : Nat -> List (List Int)
  | 0 => fS n fun r k => if r = 0 /\ k = 0 then 1 else 0
  | s + 1 => fS n (bnI (s + 1) (g2 (BT n s)))
theorem jc {n r : Nat} {f : Nat -> Nat -> Int} (hr : r <= n) : (fS n f).getD r [] = (List.range (n + 1)).map (f r) := by
  unfold fS
  rw [List.getD_eq_getElem?_getD, List.getElem?_map, List.getElem?_range (by omega)]; rfl
theorem eg {n r k : Nat} {f : Nat -> Nat -> Int} : g2 (fS n f) r k = if r <= n /\ k <= n then f r k else 0 := by
  unfold g2
  by_cases hr : r <= n
  · rw [jc hr]
    by_cases hk : k <= n
    · rw [if_pos ⟨hr, hk⟩, gg (by simp; omega)]; simp
    · rw [if_neg (fun z => hk z.2)]
      unfold gI
      rw [List.getD_eq_getElem?_getD, List.getElem?_eq_none (by simp; omega)]; rfl
  · rw [if_neg (fun z => hr z.1)]
    unfold fS
    rw [List.getD_eq_getElem?_getD, List.getElem?_eq_none (by simp; omega)]; rfl
theorem Ab {s r k B : Nat} {T : Nat -> Nat -> Int} (hT : ∀ r k, (T r k).natAbs <= B) (hk : k <= 20) (hs : s <= 20) : (bnI s T r k).natAbs <= 60 * B := by
  have a := hT (r - 1) k
  have m1 : ((k : Int) * T r k).natAbs <= 20 * B := by
    rw [Int.natAbs_mul]; exact Nat.mul_le_mul (by omega) (hT r k)
  have m2 : (((s : Int) - k) * T r (k - 1)).natAbs <= 20 * B := by
    rw [Int.natAbs_mul]; exact Nat.mul_le_mul (by omega) (hT r (k - 1))
  unfold bnI
  generalize (k : Int) * T r k = u at *
  generalize ((s : Int) - k) * T r (k - 1) = v at *
  generalize T (r - 1) k = t at *
  split <;> split <;> omega
theorem xA {n : Nat} (hn : n <= 20) : ∀ s, s <= n -> ∀ r k, (g2 (BT n s) r k).natAbs <= 60 ^ s
  | 0, _, r, k => by
    unfold BT
    rw [eg]
    by_cases c : r <= n /\ k <= n
    · rw [if_pos c]; split <;> decide
    · rw [if_neg c]; decide
  | s + 1, hs, r, k => by
    unfold BT
    rw [eg]
    by_cases c : r <= n /\ k <= n
    · rw [if_pos c]
      have := Ab (s := s + 1) (r := r) (k := k) (xA hn s (by omega)) (by omega) (by omega)
      rw [Nat.pow_succ]
      omega
    · rw [if_neg c]; exact Nat.zero_le _
theorem qq {n s r k : Nat} (hn : n <= 20) (hs : s <= n) : sml (g2 (BT n s) r k) = true := by
  refine dE (Nat.le_trans (xA hn s hs r k) (Nat.le_trans (Nat.pow_le_pow_right (by decide) (show s <= 20 by omega)) (by decide +kernel)))
noncomputable def eI (b : List Int) : D := .frl (b.map D.int)
noncomputable def eR (L : List (List Int)) : D := .frl (L.map eI)
theorem qh (n s : Nat) : ∃ f, BT n s = fS n f := by cases s <;> exact ⟨_, rfl⟩
theorem nr {n s r : Nat} {h : Hh} (hr : r <= n) : ixK ((BT n s).map eI) (r : Int) h = .ok (eI ((BT n s).getD r [])) h := by
  obtain ⟨f, e⟩ := qh n s
  refine f_ rfl ?_
  rw [e, jc hr]
  unfold fS
  rw [List.map_map, List.getElem?_map, List.getElem?_range (by omega)]; rfl
theorem oF {n s r k : Nat} {h : Hh} (hr : r <= n) (hk : k <= n) : ixK (((BT n s).getD r []).map D.int) (k : Int) h = .ok (.int (g2 (BT n s) r k)) h := by
  obtain ⟨f, e⟩ := qh n s
  refine bZ rfl ?_
  rw [e, jc hr]; simp; omega
theorem vK {n s r k : Nat} {h : Hh} (hn : n <= 20) (hs : s + 1 <= n) (hr : r <= n) (hk : k <= n) : bM [.int (1 + (s : Int)), eR (BT n s), .int r, .int k] h = .ok (.int (bnI (s + 1) (g2 (BT n s)) r k)) h := by
  have sm := fun r k => qq (n := n) (s := s) (r := r) (k := k) hn (by omega)
  have i1 := nr (n := n) (s := s) (r := r) (h := h) hr
  have i2 := oF (n := n) (s := s) (r := r) (k := k) (h := h) hr hk
  have sk : sml (k : Int) = true := g8 (by omega) (by omega)
  have ssk : sml (1 + (s : Int) - k) = true := dE (Nat.le_trans (show _ <= 100 by omega) (by decide +kernel))
  have e1 : (((s + 1 : Nat) : Int) - k) = 1 + (s : Int) - k := by omega
  unfold bnI
  rw [e1]
  by_cases cr : 0 < r
  · have j1 := nr (n := n) (s := s) (r := r - 1) (h := h) (by omega)
    have j2 := oF (n := n) (s := s) (r := r - 1) (k := k) (h := h) (by omega) hk
    rw [show ((r - 1 : Nat) : Int) = (r : Int) - 1 by omega] at j1
    have cr' : 0 < (r : Int) := by omega
    by_cases ck : 0 < k
    · have l2 := oF (n := n) (s := s) (r := r) (k := k - 1) (h := h) hr (by omega)
      rw [show ((k - 1 : Nat) : Int) = (k : Int) - 1 by omega] at l2
      have ck' : 0 < (k : Int) := by omega
      rw [if_pos cr, if_pos ck]
      generalize BT n s = L at *
      simp [-List.getD_eq_getElem?_getD, bM, bW, eR, cr', ck', i1, eI, i2, j1, j2, l2, sk, ssk, sm, cr, ck]
    · have ck' : ¬ 0 < (k : Int) := by omega
      rw [if_pos cr, if_neg ck]
      generalize BT n s = L at *
      simp [-List.getD_eq_getElem?_getD, bM, bW, eR, cr', ck', i1, eI, i2, j1, j2, sk, ssk, sm, cr, ck]
  · have cr' : ¬ 0 < (r : Int) := by omega
    by_cases ck : 0 < k
    · have l2 := oF (n := n) (s := s) (r := r) (k := k - 1) (h := h) hr (by omega)
      rw [show ((k - 1 : Nat) : Int) = (k : Int) - 1 by omega] at l2
      have ck' : 0 < (k : Int) := by omega
      rw [if_neg cr, if_pos ck]
      generalize BT n s = L at *
      simp [-List.getD_eq_getElem?_getD, bM, bW, eR, cr', ck', i1, eI, i2, l2, sk, ssk, sm, cr, ck]
    · have ck' : ¬ 0 < (k : Int) := by omega
      rw [if_neg cr, if_neg ck]
      generalize BT n s = L at *
      simp [-List.getD_eq_getElem?_getD, bM, bW, eR, cr', ck', i1, eI, i2, sk, ssk, sm, cr, ck]
noncomputable def BRI : ME := (cL au (cK (ag 3)) [1, 2, 0] tt1 (ah bM (aa (ag 1) (aa (ag 2) (aa (ag 3) (aa (ag 0) aq))))))
noncomputable def BRB : MS := (aY 2 (cL au (cK (ag 1)) [3, 2, 1] tt1 BRI))
theorem ym {n s r : Nat} {h : Hh} (hn : n <= 20) (hs : s + 1 <= n) (hr : r <= n) : BRI [some (.int r), some (.int (1 + (s : Int))), some (eR (BT n s)), some (.frl (aP 0 (n + 1)))] h = .ok (eI ((List.range (n + 1)).map (bnI (s + 1) (g2 (BT n s)) r))) h := by
  have q : cS tt1 (ah bM (aa (ag 1) (aa (ag 2) (aa (ag 3) (aa (ag 0) aq))))) (fun x => [some x, some (.int (1 + (s : Int))), some (eR (BT n s)), some (.int r)]) (aP 0 (n + 1)) h = .ok ((List.range (n + 1)).map fun k => D.int (bnI (s + 1) (g2 (BT n s)) r k)) h :=
    gY _ (fun k hk => by
      have := vK (n := n) (s := s) (r := r) (k := k) (h := h) hn hs hr (by omega)
      simp [this])
  have z : n + 1 <= 1000000 := by omega
  unfold eI
  rw [List.map_map]
  generalize eR (BT n s) = W at *
  simp [BRI, z, q]
theorem yT {n s : Nat} {h : Hh} {y : D} (hn : n <= 20) (hs : s + 1 <= n) : BRB [some (.int n), some (.frl (aP 0 (n + 1))), some (eR (BT n s)), some (.int (1 + (s : Int)))] h = .ok (.nx [some (.int n), some (.frl (aP 0 (n + 1))), some (eR (BT n (s + 1))), some (.int (1 + (s : Int)))]) h := by
  have q : cS tt1 BRI (fun x => [some x, some (.int (1 + (s : Int))), some (eR (BT n s)), some (.frl (aP 0 (n + 1)))]) (aP 0 (n + 1)) h = .ok ((List.range (n + 1)).map fun r => eI ((List.range (n + 1)).map (bnI (s + 1) (g2 (BT n s)) r))) h :=
    gY _ (fun r hr => ym hn hs (by omega))
  have z : n + 1 <= 1000000 := by omega
  have e : eR (BT n (s + 1)) = .frl ((List.range (n + 1)).map fun r => eI ((List.range (n + 1)).map (bnI (s + 1) (g2 (BT n s)) r))) := by
    show eR (fS n _) = _
    unfold eR fS
    rw [List.map_map]; rfl
  rw [e]
  generalize eR (BT n s) = W at *
  simp [BRB, z, q]
noncomputable def BR0 : ME := (cL au (cK (ag 1)) [0] tt1 (cIf (jd (aZ asB (ak dEq (ag 1) (cC (.int 0)))) (aZ asB (ak dEq (ag 0) (cC (.int 0))))) (cC (.int 1)) (cC (.int 0))))
theorem yl {n r : Nat} {h : Hh} (hn : n <= 20) : BR0 [some (.int r), some (.frl (aP 0 (n + 1)))] h = .ok (eI ((List.range (n + 1)).map fun k => if r = 0 /\ k = 0 then 1 else 0)) h := by
  have q : cS tt1 (cIf (jd (aZ asB (ak dEq (ag 1) (cC (.int 0)))) (aZ asB (ak dEq (ag 0) (cC (.int 0))))) (cC (.int 1)) (cC (.int 0))) (fun x => [some x, some (.int r)]) (aP 0 (n + 1)) h = .ok ((List.range (n + 1)).map fun k => D.int (if r = 0 /\ k = 0 then 1 else 0)) h :=
    gY _ (fun k hk => by
      by_cases a : r = 0 <;> by_cases b : k = 0
      · simp [a, b]
      · have b' : ¬ (k : Int) = 0 := by omega
        simp [a, b, b']
      · have a' : ¬ (r : Int) = 0 := by omega
        simp [a, b, a']
      · have a' : ¬ (r : Int) = 0 := by omega
        simp [a, b, a'])
  have z : n + 1 <= 1000000 := by omega
  unfold eI
  rw [List.map_map]
  simp [BR0, z, q]
theorem rq {n : Nat} {h : Hh} (hn : n <= 20) : cH [.int n] h = .ok (eR (BT n n)) h := by
  have q : cS tt1 BR0 (fun x => [some x, some (.frl (aP 0 (n + 1)))]) (aP 0 (n + 1)) h = .ok ((List.range (n + 1)).map fun r => eI ((List.range (n + 1)).map fun k => if r = 0 /\ k = 0 then 1 else 0)) h :=
    gY _ (fun r hr => yl hn)
  have e : eR (BT n 0) = .frl ((List.range (n + 1)).map fun r => eI ((List.range (n + 1)).map fun k => if r = 0 /\ k = 0 then 1 else 0)) := by
    show eR (fS n _) = _
    unfold eR fS
    rw [List.map_map]; rfl
  obtain ⟨s, lp, ei⟩ := fO (σ := D × Option D) (tg := gN 3) (body := BRB) (fun (i : Nat) => D.int (1 + (i : Int))) n (fun s => [some (.int n), some (.frl (aP 0 (n + 1))), some s.1, s.2]) (fun _ => h) (fun i s => s.1 = eR (BT n i)) (fun i s hi hs => by
    obtain ⟨d, y⟩ := s
    dsimp only at hs
    subst hs
    exact ⟨(eR (BT n (i + 1)), some (.int (1 + (i : Int)))), rfl, by simp only [pD, bH, List.set]; exact yT (y := .non) hn (by omega)⟩) n 0 (eR (BT n 0), none) (by omega) rfl
  obtain ⟨d, y⟩ := s
  dsimp only at lp ei
  subst ei
  have ir : aP 1 n = (List.range' 0 n).map fun (i : Nat) => D.int (1 + (i : Int)) := by unfold aP; rw [List.range_eq_range']
  rw [<- ir] at lp
  have e2 : cH = cJ 4 (az (aY 1 (ah (fV au) (aa (ak (bh au) (ag 0) (cC (.int 1))) aq)))
    (az (aY 2 (cL au (cK (ag 1)) [1] tt1 BR0))
    (az (cR (dF h9 (aa (cC (.int 1)) (aa (ak (bh au) (ag 0) (cC (.int 1))) aq))) (gN 3) BRB)
    (cb (ag 2))))) := rfl
  have z : n + 1 <= 1000000 := by omega
  have z1 : ((n : Int) + 1).toNat = n + 1 := by omega
  have z2 : ((n : Int) + 1).natAbs <= 1000000 := by omega
  have z3 : ((n : Int) + 1 - 1).toNat = n := by omega
  have z4 : n <= 1000000 := by omega
  rw [e2]
  rw [e] at lp
  generalize ((List.range (n + 1)).map fun r => eI ((List.range (n + 1)).map fun k => if r = 0 /\ k = 0 then 1 else 0)) = L0 at *
  generalize eR (BT n n) = W at *
  simp [bW, z, z1, z2, z3, z4, q, lp]
noncomputable def bcI (n r k : Nat) : Int := if r <= n /\ k <= n then g2 (BT n n) r k else 0
theorem oI {n r k : Nat} {h : Hh} (h1 : 1 <= n) (hn : n <= 20) (hr : r <= 20) (hk : k <= 20) : bt [.int n, .int r, .int k] h = .ok (.int (bcI n r k)) h := by
  have b := rq (n := n) (h := h) hn
  have z1 : (1 : Int) <= n /\ (n : Int) <= 20 := by omega
  have z2 : (0 : Int) <= r /\ (r : Int) <= 20 := by omega
  have z3 : (0 : Int) <= k /\ (k : Int) <= 20 := by omega
  have n1 := dv (h := h) z1
  have n2 := dv (h := h) z2
  have n3 := dv (h := h) z3
  unfold bcI
  by_cases cr : r <= n
  · have cr' : (r : Int) <= n := by omega
    by_cases ck : k <= n
    · have ck' : (k : Int) <= n := by omega
      have i1 := nr (n := n) (s := n) (r := r) (h := h) cr
      have i2 := oF (n := n) (s := n) (r := r) (k := k) (h := h) cr ck
      rw [if_pos ⟨cr, ck⟩]
      unfold eR at b
      generalize BT n n = L at *
      simp [-List.getD_eq_getElem?_getD, bt, bV, cg, bW, n1, n2, n3, cr', ck', b, i1, eI, i2]
    · have ck' : ¬ (k : Int) <= n := by omega
      rw [if_neg (fun z => ck z.2)]
      simp [bt, bV, cg, bW, n1, n2, n3, cr', ck']
  · have cr' : ¬ (r : Int) <= n := by omega
    rw [if_neg (fun z => cr z.1)]
    simp [bt, bV, cg, bW, n1, n2, n3, cr']
theorem tW {n r : Nat} {h : Hh} (h1 : 1 <= n) (hn : n <= 20) (hr : r <= n) : aW [.int n, .int r] h = .ok (.int ((BT n n).getD r []).sum) h := by
  have b := rq (n := n) (h := h) hn
  have z1 : (1 : Int) <= n /\ (n : Int) <= 20 := by omega
  have z2 : (0 : Int) <= r /\ (r : Int) <= 20 := by omega
  have n1 := dv (h := h) z1
  have n2 := dv (h := h) z2
  have cr' : (r : Int) <= n := by omega
  have i1 := nr (n := n) (s := n) (r := r) (h := h) hr
  unfold eR at b
  generalize BT n n = L at *
  simp [-List.getD_eq_getElem?_getD, aW, bW, n1, n2, cr', b, i1, eI]
theorem wH {n r : Nat} (hr : r <= n) : ((List.range (n + 1)).map fun k => bcI n r k) = (BT n n).getD r [] := by
  obtain ⟨f, e⟩ := qh n n
  rw [e, jc hr]
  refine List.map_congr_left fun k hk => ?_
  have hk := List.mem_range.mp hk
  unfold bcI
  rw [if_pos ⟨hr, by omega⟩, e, eg, if_pos ⟨hr, by omega⟩]
noncomputable def nrI (s : Nat) (before row : List Int) : List Int := (List.range 21).map fun (k : Nat) => if k = 0 then 0 else (k : Int) * gI row k + ((s : Int) - k) * gI row (k - 1) + ((s : Int) - 1) * gI before (k - 1)
noncomputable def NR : Nat -> List Int × List Int
  | 0 => ([], [])
  | s + 1 => if s = 0 then (1 :: List.replicate 20 0, List.replicate 21 0) else ((NR s).2, nrI (s + 1) (NR s).1 (NR s).2)
noncomputable def frN (n : Nat) (k : Nat -> Bool) : Bool := Nat.rec (k 0) (fun m _ => k (m + 1)) n
theorem zj (n : Nat) (k : Nat -> Bool) : frN n k = k n := by cases n <;> rfl
noncomputable def frI (x : Int) (k : Int -> Bool) : Bool := match x with
  | .ofNat n => frN n fun m => k (.ofNat m)
  | .negSucc n => k (.negSucc n)
theorem zh (x : Int) (k : Int -> Bool) : frI x k = k x := by
  cases x with
  | ofNat n => exact zj n fun m => k (.ofNat m)
  | negSucc n => rfl
noncomputable def frL : List Int -> (List Int -> Bool) -> Bool
  | [], k => k []
  | x :: xs, k => frI x fun y => frL xs fun ys => k (y :: ys)
theorem nP : ∀ (l : List Int) (k : List Int -> Bool), frL l k = k l
  | [], k => rfl
  | x :: xs, k => by unfold frL; rw [zh, nP]
noncomputable def frM : List (List Int) -> (List (List Int) -> Bool) -> Bool
  | [], k => k []
  | x :: xs, k => frL x fun y => frM xs fun ys => k (y :: ys)
theorem uk : ∀ (l : List (List Int)) (k : List (List Int) -> Bool), frM l k = k l
  | [], k => rfl
  | x :: xs, k => by unfold frM; rw [nP, uk]
theorem xC {l : List Int} {i j : Nat} {v : Int} (hj : j < l.length) : gI (l.set i v) j = if i = j then v else gI l j := by
  rw [gg (by simpa using hj), gg hj, List.getElem_set]
theorem gP {l : List Int} {j : Nat} (hj : l.length <= j) : gI l j = 0 := by
  unfold gI; rw [List.getD_eq_getElem?_getD, List.getElem?_eq_none hj]; rfl
theorem tf {k : Nat} {b : List Int} : dO k (eI b) = true := by simp [eI, dO]
theorem qW {s k : Nat} {b r : List Int} (hk : k < 21) : gI (nrI s b r) k = if k = 0 then 0 else (k : Int) * gI r k + ((s : Int) - k) * gI r (k - 1) + ((s : Int) - 1) * gI b (k - 1) := by
  rw [gg (by simp [nrI, hk])]; simp [nrI]
theorem pW {s : Nat} {b r : List Int} : (nrI s b r).length = 21 := by simp [nrI]
theorem Bc {s k B : Nat} {b r : List Int} (hs : s <= 20) (h1 : 1 <= s) (hb : ∀ x, (gI b x).natAbs <= B) (hr : ∀ x, (gI r x).natAbs <= B) : (gI (nrI s b r) k).natAbs <= 60 * B := by
  by_cases hk : k < 21
  · rw [qW hk]
    have m1 : ((k : Int) * gI r k).natAbs <= 20 * B := by rw [Int.natAbs_mul]; exact Nat.mul_le_mul (by omega) (hr k)
    have m2 : (((s : Int) - k) * gI r (k - 1)).natAbs <= 20 * B := by rw [Int.natAbs_mul]; exact Nat.mul_le_mul (by omega) (hr _)
    have m3 : (((s : Int) - 1) * gI b (k - 1)).natAbs <= 20 * B := by rw [Int.natAbs_mul]; exact Nat.mul_le_mul (by omega) (hb _)
    generalize (k : Int) * gI r k = u at *
    generalize ((s : Int) - k) * gI r (k - 1) = v at *
    generalize ((s : Int) - 1) * gI b (k - 1) = t at *
    split <;> omega
  · rw [gP (by rw [pW]; omega)]; exact Nat.zero_le _
theorem xY {s : Nat} (hs : 1 <= s) : NR (s + 1) = ((NR s).2, nrI (s + 1) (NR s).1 (NR s).2) := by
  show (if s = 0 then _ else _) = _
  rw [if_neg (by omega)]
theorem pF : ∀ s, 1 <= s -> s <= 20 -> (NR s).1.length = 21 /\ (NR s).2.length = 21 /\ (∀ x, (gI (NR s).1 x).natAbs <= 60 ^ s) /\ (∀ x, (gI (NR s).2 x).natAbs <= 60 ^ s)
  | 0, h, _ => by omega
  | s + 1, _, hs => by
    by_cases c : s = 0
    · subst c
      have g1 : ∀ x, (gI (NR 1).1 x).natAbs <= 60 ^ 1 := fun x => by
        by_cases hx : x < 21
        · have : ∀ x, x < 21 -> (gI (NR 1).1 x).natAbs <= 60 ^ 1 := by decide
          exact this x hx
        · rw [gP (by show 21 <= x; omega)]; exact Nat.zero_le _
      have g2 : ∀ x, (gI (NR 1).2 x).natAbs <= 60 ^ 1 := fun x => by
        by_cases hx : x < 21
        · have : ∀ x, x < 21 -> (gI (NR 1).2 x).natAbs <= 60 ^ 1 := by decide
          exact this x hx
        · rw [gP (by show 21 <= x; omega)]; exact Nat.zero_le _
      exact ⟨rfl, rfl, g1, g2⟩
    · obtain ⟨l1, l2, b1, b2⟩ := pF s (by omega) (by omega)
      rw [xY (by omega)]
      refine ⟨l2, pW, fun x => ?_, fun x => ?_⟩
      · have := b2 x
        rw [Nat.pow_succ]; dsimp only; omega
      · have := Bc (s := s + 1) (k := x) hs (by omega) b1 b2
        rw [Nat.pow_succ]; dsimp only; omega
noncomputable def NRB : MS := (eE dX (ag 3) (ag 4) (ak (bh au) (ak (bh au) (ak (cp au) (ag 4) (ak dIx (ag 2) (ag 4))) (ak (cp au) (ak dg (ag 0) (ag 4)) (ak dIx (ag 2) (ak dg (ag 4) (cC (.int 1)))))) (ak (cp au) (ak dg (ag 0) (cC (.int 1))) (ak dIx (ag 1) (ak dg (ag 4) (cC (.int 1)))))))
theorem yy {s k : Nat} {b r c : List Int} (hs : s <= 20) (lb : b.length = 21) (lr : r.length = 21) (lc : c.length = 21) (k1 : 1 <= k) (hk : k < 21) (sb : ∀ x, sml (gI b x) = true) (sr : ∀ x, sml (gI r x) = true) : NRB [some (.int s), some (eI b), some (eI r), some (.ref 0), some (.int k)] [.lst (c.map D.int)] = .ok (.nx [some (.int s), some (eI b), some (eI r), some (.ref 0), some (.int k)]) [.lst ((c.set k (gI (nrI s b r) k)).map D.int)] := by
  have i1 := bZ (h := [.lst (c.map D.int)]) (ns := r) (i := (k : Int)) (j := k) rfl (by omega)
  have i2 := bZ (h := [.lst (c.map D.int)]) (ns := r) (i := (k : Int) - 1) (j := k - 1) (by omega) (by omega)
  have i3 := bZ (h := [.lst (c.map D.int)]) (ns := b) (i := (k : Int) - 1) (j := k - 1) (by omega) (by omega)
  have s1 : sml (k : Int) = true := g8 (by omega) (by omega)
  have s2 : sml ((s : Int) - k) = true := dE (Nat.le_trans (show _ <= 100 by omega) (by decide +kernel))
  have s3 : sml ((s : Int) - 1) = true := dE (Nat.le_trans (show _ <= 100 by omega) (by decide +kernel))
  have n2 : ixN (c.map D.int).length (k : Int) = some k := by rw [List.length_map]; exact qV rfl (by omega)
  have st : ∀ v : Int, dX (.ref 0) (.int (k : Int)) (.int v) [.lst (c.map D.int)] = .ok () [.lst ((c.set k v).map D.int)] := fun v => by
    rw [iZ (show aD [O.lst (c.map D.int)] 0 = some (c.map D.int) from rfl) n2, List.map_set]; rfl
  rw [qW hk, if_neg (by omega)]
  simp [NRB, eI, i1, i2, i3, s1, s2, s3, sb, sr, st]
theorem zf {s : Nat} {b r : List Int} {h : Hh} (hs : s <= 20) (lb : b.length = 21) (lr : r.length = 21) (sb : ∀ x, sml (gI b x) = true) (sr : ∀ x, sml (gI r x) = true) : dB [.int s, eI b, eI r] h = .ok (eI (nrI s b r)) h := by
  obtain ⟨q0, lp, ei⟩ := fO (σ := List Int × Option D) (tg := gN 4) (body := NRB) (fun (i : Nat) => D.int (1 + (i : Int))) 20 (fun s0 => [some (.int s), some (eI b), some (eI r), some (.ref 0), s0.2]) (fun s0 => [.lst (s0.1.map D.int)]) (fun i s0 => s0.1.length = 21 /\ ∀ x, x < 21 -> gI s0.1 x = if x <= i then gI (nrI s b r) x else 0) (fun i s0 hi hs0 => by
    obtain ⟨c, y⟩ := s0
    obtain ⟨lc, hv⟩ := hs0
    dsimp only at lc hv ⊢
    have e : (1 + (i : Int)) = ((i + 1 : Nat) : Int) := by omega
    refine ⟨(c.set (i + 1) (gI (nrI s b r) (i + 1)), some (.int (1 + (i : Int)))), ⟨by simp [lc], fun x hx => ?_⟩, ?_⟩
    · dsimp only
      rw [xC (by omega)]
      by_cases c1 : i + 1 = x
      · rw [if_pos c1, if_pos (by omega), c1]
      · rw [if_neg c1, hv x hx]
        by_cases c2 : x <= i
        · rw [if_pos c2, if_pos (by omega)]
        · rw [if_neg c2, if_neg (by omega)]
    · dsimp only
      simp only [pD, bH, List.set]
      rw [e]
      exact yy hs lb lr lc (by omega) (by omega) sb sr) 20 0 (List.replicate 21 0, none) (by omega) ⟨by simp, fun x hx => by
      have g0 : gI (List.replicate 21 0) x = 0 := by rw [gg (by rw [List.length_replicate]; exact hx), List.getElem_replicate]
      dsimp only
      rw [g0]
      by_cases c : x <= 0
      · have : x = 0 := by omega
        subst this
        rw [if_pos c, qW (by omega)]; rfl
      · rw [if_neg c]⟩
  obtain ⟨c, y⟩ := q0
  obtain ⟨lc, hv⟩ := ei
  dsimp only at lc hv lp
  have ec : c = nrI s b r := xN (by rw [lc, pW]) fun x hx => by rw [hv x (by omega), if_pos (by omega)]
  subst ec
  have ir : aP 1 20 = (List.range' 0 20).map fun (i : Nat) => D.int (1 + (i : Int)) := by unfold aP; rw [List.range_eq_range']
  rw [<- ir, List.map_replicate] at lp
  have e2 : dB = gj (fun ds h => ((cJ 5 (az (aY 3 (ak (cp kd) (ah (bU au) (aa (cC (.int 0)) aq)) (ah iA (aa (ag 2) aq))))
    (az (cR (dF h9 (aa (cC (.int 1)) (aa (ah iA (aa (ag 2) aq)) aq))) (gN 4) NRB)
    (cb (ag 3))))) ds h).bind (cu h)) := rfl
  have lo1 : bS 0 [.int (s : Int), eI b, eI r] = true := by simp only [bS, tf]; rfl
  have lo2 : dO 0 (.frl ((nrI s b r).map D.int)) = true := tf
  have ex := rV (h := []) (t := []) (ds := (nrI s b r).map D.int) Wf.nil (by simp [deep])
  have lr' : (r.map D.int).length = 21 := by simp [lr]
  have rp : (List.replicate 21 [D.int 0]).flatten = List.replicate 21 (D.int 0) := rfl
  simp only [List.nil_append, List.length_nil] at ex
  rw [e2]
  show _ = R.ok (D.frl ((nrI s b r).map D.int)) h
  generalize (nrI s b r).map D.int = W at *
  unfold eI at *
  generalize r.map D.int = RD at *
  generalize b.map D.int = BD at *
  have r2 : List.replicate 2 (none : Option D) = [none, none] := rfl
  simp [-List.reduceReplicate, r2, gj, lo1, bW, lr', rp, lp, ex, lo2]
theorem t7 {n k : Nat} {h : Hh} (h1 : 1 <= n) (hn : n <= 20) (hk : k <= 20) : bJ [.int n, .int k] h = .ok (.int (gI (NR n).2 k)) h := by
  have sm : ∀ s, 1 <= s -> s <= 20 -> (∀ x, sml (gI (NR s).1 x) = true) /\ (∀ x, sml (gI (NR s).2 x) = true) := fun s a b => by
    obtain ⟨_, _, b1, b2⟩ := pF s a b
    have p : 60 ^ s <= 10 ^ 560 := Nat.le_trans (Nat.pow_le_pow_right (by decide) b) (by decide +kernel)
    exact ⟨fun x => dE (Nat.le_trans (b1 x) p), fun x => dE (Nat.le_trans (b2 x) p)⟩
  obtain ⟨q0, lp, ei⟩ := fO (σ := (List Int × List Int) × Option D) (tg := gN 4) (body := (lJ 2 3 (aa (ag 3) (aa (ah dB (aa (ag 4) (aa (ag 2) (aa (ag 3) aq)))) aq)))) (fun (i : Nat) => D.int (2 + (i : Int))) (n - 1) (fun s0 => [some (.int n), some (.int k), some (eI s0.1.1), some (eI s0.1.2), s0.2]) (fun _ => h) (fun i s0 => s0.1 = NR (i + 1)) (fun i s0 hi hs0 => by
    obtain ⟨c, y⟩ := s0
    dsimp only at hs0
    subst hs0
    obtain ⟨l1, l2, _, _⟩ := pF (i + 1) (by omega) (by omega)
    obtain ⟨m1, m2⟩ := sm (i + 1) (by omega) (by omega)
    have x := zf (s := i + 2) (h := h) (by omega) l1 l2 m1 m2
    rw [show ((i + 2 : Nat) : Int) = 2 + (i : Int) by omega] at x
    refine ⟨(NR (i + 2), some (.int (2 + (i : Int)))), rfl, ?_⟩
    dsimp only
    rw [xY (s := i + 1) (by omega)]
    generalize NR (i + 1) = N at *
    dsimp only
    simp [x]) (n - 1) 0 (NR 1, none) (by omega) rfl
  obtain ⟨c, y⟩ := q0
  dsimp only at lp ei
  subst ei
  rw [show n - 1 + 1 = n by omega] at lp
  have ir : aP 2 (n - 1) = (List.range' 0 (n - 1)).map fun (i : Nat) => D.int (2 + (i : Int)) := by unfold aP; rw [List.range_eq_range']
  rw [<- ir] at lp
  have e1 : eI (NR 1).1 = .frl (.int 1 :: List.replicate 20 (.int 0)) := by
    show eI (1 :: List.replicate 20 0) = _
    unfold eI; rw [List.map_cons, List.map_replicate]
  have e2 : eI (NR 1).2 = .frl (List.replicate 21 (.int 0)) := by
    show eI (List.replicate 21 0) = _
    unfold eI; rw [List.map_replicate]
  rw [e1, e2] at lp
  obtain ⟨_, l2, _, _⟩ := pF n h1 hn
  have ix := bZ (h := h) (ns := (NR n).2) (i := (k : Int)) (j := k) rfl (by omega)
  have z1 : (1 : Int) <= n /\ (n : Int) <= 20 := by omega
  have z2 : (0 : Int) <= k /\ (k : Int) <= 20 := by omega
  have n1 := dv (h := h) z1
  have n2 := dv (h := h) z2
  have rp : (List.replicate 20 [D.int 0]).flatten = List.replicate 20 (D.int 0) := rfl
  have rp1 : (List.replicate 21 [D.int 0]).flatten = List.replicate 21 (D.int 0) := rfl
  have z3 : ((n : Int) + 1).natAbs <= 1000000 := by omega
  have z4 : ((n : Int) + 1 - 2).toNat = n - 1 := by omega
  have z5 : n - 1 <= 1000000 := by omega
  have l20 : (List.replicate 20 (D.int 0)).length = 20 := by simp
  generalize (NR n).1 = A1 at *
  generalize (NR n).2 = A2 at *
  unfold eI at lp
  generalize hR1 : List.replicate 20 (D.int 0) = R1 at *
  generalize hR2 : List.replicate 21 (D.int 0) = R2 at *
  generalize A2.map D.int = W at *
  generalize A1.map D.int = W1 at *
  have r3 : List.replicate 3 (none : Option D) = [none, none, none] := rfl
  simp [-List.reduceReplicate, r3, bJ, bW, n1, n2, rp, rp1, hR1, hR2, l20, z3, z4, z5, lp, ix]
noncomputable def LR : Nat -> List Int
  | 0 => 1 :: List.replicate 21 0
  | s + 1 => ((s : Int) * gI (LR s) 0) :: (List.range 21).map fun (i : Nat) => (s : Int) * gI (LR s) (i + 1) + gI (LR s) i
theorem kH (s : Nat) : (LR s).length = 22 := by cases s <;> simp [LR]
theorem Bt (s : Nat) : gI (LR (s + 1)) 0 = (s : Int) * gI (LR s) 0 := rfl
theorem Cd {s i : Nat} (hi : i < 21) : gI (LR (s + 1)) (i + 1) = (s : Int) * gI (LR s) (i + 1) + gI (LR s) i := by
  rw [gg (by rw [kH]; omega)]; simp [LR]
theorem xv : ∀ s, s <= 20 -> ∀ k, (gI (LR s) k).natAbs <= 60 ^ s
  | 0, _, k => by
    by_cases hk : k < 22
    · have : ∀ k, k < 22 -> (gI (LR 0) k).natAbs <= 60 ^ 0 := by decide
      exact this k hk
    · rw [gP (by rw [kH]; omega)]; exact Nat.zero_le _
  | s + 1, hs, k => by
    have ih := xv s (by omega)
    rw [Nat.pow_succ]
    cases k with
    | zero =>
      rw [Bt, Int.natAbs_mul, Nat.mul_comm]
      exact Nat.mul_le_mul (ih 0) (by omega)
    | succ k =>
      by_cases hk : k < 21
      · rw [Cd hk]
        have m1 : ((s : Int) * gI (LR s) (k + 1)).natAbs <= 20 * 60 ^ s := by rw [Int.natAbs_mul]; exact Nat.mul_le_mul (by omega) (ih _)
        have m2 := ih k
        generalize (s : Int) * gI (LR s) (k + 1) = u at *
        omega
      · rw [gP (by rw [kH]; omega)]; exact Nat.zero_le _
theorem qc {s k : Nat} (hs : s <= 20) : sml (gI (LR s) k) = true := dE (Nat.le_trans (xv s hs k) (Nat.le_trans (Nat.pow_le_pow_right (by decide) hs) (by decide +kernel)))
noncomputable def LRB : MS := (aY 2 (ak (bh au) (ah (bU au) (aa (ak (cp au) (ag 3) (ak dIx (ag 2) (cC (.int 0)))) aq)) (cL au (dF h9 (aa (cC (.int 1)) (aa (cC (.int 22)) aq))) [3, 2] tt1 (ak (bh au) (ak (cp au) (ag 1) (ak dIx (ag 2) (ag 0))) (ak dIx (ag 2) (ak dg (ag 0) (cC (.int 1))))))))
theorem yV {n r s : Nat} {h : Hh} (hs : s <= 20) : LRB [some (.int n), some (.int r), some (eI (LR s)), some (.int s)] h = .ok (.nx [some (.int n), some (.int r), some (eI (LR (s + 1))), some (.int s)]) h := by
  have ll := kH s
  have ss : sml (s : Int) = true := g8 (by omega) (by omega)
  have sm := fun k => qc (s := s) (k := k) hs
  have i0 := bZ (h := h) (ns := LR s) (i := 0) (j := 0) rfl (by omega)
  have q : cS tt1 (ak (bh au) (ak (cp au) (ag 1) (ak dIx (ag 2) (ag 0))) (ak dIx (ag 2) (ak dg (ag 0) (cC (.int 1))))) (fun x => [some x, some (.int s), some (eI (LR s))]) (aP 1 21) h = .ok (((List.range 21).map fun (i : Nat) => (s : Int) * gI (LR s) (i + 1) + gI (LR s) i).map D.int) h := by
    unfold aP
    rw [pj (fun (i : Nat) => D.int (1 + (i : Int))) (fun (i : Nat) => D.int ((s : Int) * gI (LR s) (i + 1) + gI (LR s) i)) (List.range 21) (fun i hi => by
      have hi := List.mem_range.mp hi
      have j1 := bZ (h := h) (ns := LR s) (i := 1 + (i : Int)) (j := i + 1) (by omega) (by omega)
      have j2 := bZ (h := h) (ns := LR s) (i := 1 + (i : Int) - 1) (j := i) (by omega) (by omega)
      unfold eI
      simp [j1, j2, ss, sm]), List.map_map]
    rfl
  have e : eI (LR (s + 1)) = .frl (.int ((s : Int) * gI (LR s) 0) :: ((List.range 21).map fun (i : Nat) => (s : Int) * gI (LR s) (i + 1) + gI (LR s) i).map D.int) := rfl
  rw [e]
  have l21 : (((List.range 21).map fun (i : Nat) => (s : Int) * gI (LR s) (i + 1) + gI (LR s) i).map D.int).length = 21 := by simp
  generalize ((List.range 21).map fun (i : Nat) => (s : Int) * gI (LR s) (i + 1) + gI (LR s) i).map D.int = W at *
  unfold eI at q ⊢
  generalize hL : (LR s).map D.int = L at *
  simp [LRB, i0, ss, sm, q, l21]
theorem sE {n r : Nat} {h : Hh} (hn : n <= 20) (hr : r <= 21) : bu [.int n, .int r] h = .ok (.int (gI (LR n) r)) h := by
  obtain ⟨s, lp, ei⟩ := fO (σ := D × Option D) (tg := gN 3) (body := LRB) (fun (i : Nat) => D.int i) n (fun s => [some (.int n), some (.int r), some s.1, s.2]) (fun _ => h) (fun i s => s.1 = eI (LR i)) (fun i s hi hs => by
    obtain ⟨d, y⟩ := s
    dsimp only at hs
    subst hs
    exact ⟨(eI (LR (i + 1)), some (.int i)), rfl, by simp only [pD, bH, List.set]; exact yV (by omega)⟩) n 0 (eI (LR 0), none) (by omega) rfl
  obtain ⟨d, y⟩ := s
  dsimp only at lp ei
  subst ei
  rw [<- uV] at lp
  have e0 : eI (LR 0) = .frl (.int 1 :: List.replicate 21 (.int 0)) := by
    show eI (1 :: List.replicate 21 0) = _
    unfold eI; rw [List.map_cons, List.map_replicate]
  rw [e0] at lp
  have ix := bZ (h := h) (ns := LR n) (i := (r : Int)) (j := r) rfl (by rw [kH]; omega)
  have rp : (List.replicate 21 [D.int 0]).flatten = List.replicate 21 (D.int 0) := rfl
  have z : n <= 1000000 := by omega
  have l21 : (List.replicate 21 (D.int 0)).length = 21 := by simp
  have e2 : bu = cJ 4 (az (aY 2 (ak (bh au) (ah (bU au) (aa (cC (.int 1)) aq)) (ak (cp au) (ah (bU au) (aa (cC (.int 0)) aq)) (cC (.int 21))))) (az (cR (dF gG (aa (ag 0) aq)) (gN 3) LRB) (cb (ak dIx (ag 2) (ag 1))))) := rfl
  rw [e2]
  unfold eI at lp
  generalize hR1 : List.replicate 21 (D.int 0) = R1 at *
  generalize (LR n).map D.int = W at *
  have r2 : List.replicate 2 (none : Option D) = [none, none] := rfl
  simp [-List.reduceReplicate, r2, bW, rp, hR1, l21, z, lp, ix]
theorem ne_nil {n : Nat} {ds : List D} {h : Hh} (e : aD h n = some ds) : dNe (.ref n) (.frl []) h = .ok (.bl (!ds.isEmpty)) h := by
  delta dNe
  have : eqD eqN h (.ref n) (.frl []) = some ds.isEmpty := by
    unfold eqD
    simp only [vw, e]
    cases ds with
    | nil => rfl
    | cons x r => rfl
  rw [this]
theorem AJ {n : Nat} {ns : List Int} {i : Int} {h : Hh} (e : aD h n = some (ns.map D.int)) : dIn false (.int i) (.ref n) h = .ok (.bl (ns.any (· == i))) h := by
  have s : gf (.ref n) h = some (ns.map D.int) := e
  delta dIn; rw [s]; dsimp only
  rw [if_pos ⟨rfl, mN ns⟩, if_neg Bool.false_ne_true, nM]
noncomputable def j4 (l : List Int) (i : Int) : List Int := match l.findIdx? (· == i) with
  | some j => l.take j ++ l.drop (j + 1)
  | none => l
theorem um {l : List Int} {i : Int} (h : l.any (· == i) = true) : ∃ j, l.findIdx? (· == i) = some j /\ j < l.length := by
  cases e : l.findIdx? (· == i) with
  | none =>
    rw [List.findIdx?_eq_none_iff] at e
    obtain ⟨x, hx, hp⟩ := List.any_eq_true.mp h
    rw [e x hx] at hp; cases hp
  | some j => exact ⟨j, rfl, (List.findIdx?_eq_some_iff_getElem.mp e).1⟩
theorem vt {l : List Int} {i : Int} (h : l.any (· == i) = true) : (j4 l i).length + 1 = l.length := by
  obtain ⟨j, e, hj⟩ := um h
  unfold j4; rw [e]; simp; omega
theorem wO {l : List Int} {i x : Int} (h : x ∈ j4 l i) : x ∈ l := by
  unfold j4 at h
  split at h
  · rcases List.mem_append.mp h with z | z
    · exact List.mem_of_mem_take z
    · exact List.mem_of_mem_drop z
  · exact h
noncomputable def IC : MT := (aZ asB (ak (dIn false) (ag 3) (ag 2)))
noncomputable def IB : MS := (az (eX (jz gX (ag 2) (aa (ag 3) aq))) (aY 3 (ak dIx (ag 0) (ag 3))))
noncomputable def gn (xs : List Int) : Nat -> List Int -> Int -> List Int × Int
  | 0, l, h => (l, h)
  | f + 1, l, h => if l.any (· == h) = true then gn xs f (j4 l h) (gI xs h.toNat) else (l, h)
theorem pQ {n : Nat} {xs : List Int} {y1 : Option D} (hl : xs.length = n) (hx : ∀ x ∈ xs, 0 <= x /\ x < n) : ∀ (f : Nat) (l : List Int) (h : Int), l.length < f -> l.length <= 100 -> 0 <= h -> h < n -> di IC IB f [some (.tup (xs.map D.int)), y1, some (.ref 0), some (.int h)] [.lst (l.map D.int)] = .ok (.nx [some (.tup (xs.map D.int)), y1, some (.ref 0), some (.int (gn xs f l h).2)]) [.lst ((gn xs f l h).1.map D.int)] /\ (gn xs f l h).1.length <= l.length /\ (∀ x ∈ (gn xs f l h).1, x ∈ l) /\ (l.any (· == h) = true -> (gn xs f l h).1.length < l.length)
  | 0, l, h, hf, _, _, _ => by omega
  | f + 1, l, h, hf, h100, h0, h1 => by
    have il := AJ (h := [.lst (l.map D.int)]) (n := 0) (ns := l) (i := h) rfl
    by_cases c : l.any (· == h) = true
    · obtain ⟨j, ej, hj⟩ := um c
      have rl := vt c
      have r := ub (h := [.lst (l.map D.int)]) (n := 0) (ns := l) (i := h) (j := j) rfl ej (by omega)
      have er : j4 l h = l.take j ++ l.drop (j + 1) := by unfold j4; rw [ej]
      rw [<- er] at r
      have gm : gI xs h.toNat ∈ xs := zi (by omega)
      obtain ⟨g0, g1⟩ := hx _ gm
      obtain ⟨q, a, b, _⟩ := pQ (y1 := y1) hl hx f (j4 l h) (gI xs h.toNat) (by omega) (by omega) g0 g1
      have e : gn xs (f + 1) l h = gn xs f (j4 l h) (gI xs h.toNat) := if_pos c
      have ix := bZ (h := [.lst ((j4 l h).map D.int)]) (ns := xs) (i := h) (j := h.toNat) (by omega) (by omega)
      rw [e]
      refine ⟨?_, by omega, fun x hx => wO (b x hx), fun _ => by omega⟩
      have c1 : IC [some (.tup (xs.map D.int)), y1, some (.ref 0), some (.int h)] [.lst (l.map D.int)] = .ok true [.lst (l.map D.int)] := by
        rw [c] at il
        simp [IC, il]
      have b1 : IB [some (.tup (xs.map D.int)), y1, some (.ref 0), some (.int h)] [.lst (l.map D.int)] = .ok (.nx [some (.tup (xs.map D.int)), y1, some (.ref 0), some (.int (gI xs h.toNat))]) [.lst ((j4 l h).map D.int)] := by
        have isl : isL (.ref 0) [O.lst (l.map D.int)] = true := rfl
        simp only [List.set] at r
        generalize (j4 l h).map D.int = W at *
        generalize l.map D.int = W0 at *
        simp [IB, isl, r, ix]
      unfold di
      rw [c1, bH, if_pos rfl, b1, bH]
      exact q
    · have c' : l.any (· == h) = false := by
        have c0 := c
        rw [Bool.not_eq_true] at c0
        exact c0
      have e : gn xs (f + 1) l h = (l, h) := if_neg c
      rw [e]
      refine ⟨?_, Nat.le_refl _, fun x hx => hx, fun z => absurd z c⟩
      have c1 : IC [some (.tup (xs.map D.int)), y1, some (.ref 0), some (.int h)] [.lst (l.map D.int)] = .ok false [.lst (l.map D.int)] := by
        rw [c'] at il
        simp [IC, il]
      unfold di
      rw [c1, bH]
      rfl
noncomputable def OC : MT := (aZ asB (ak dNe (ag 2) (ah (bU au) aq)))
noncomputable def OB : MS := (az (aY 1 (ak (bh au) (ag 1) (cC (.int 1)))) (az (aY 3 (ak dIx (ag 2) (cC (.int 0)))) (gB 64 IC IB)))
noncomputable def mW (xs : List Int) : Nat -> List Int -> Nat
  | 0, _ => 0
  | f + 1, l => if l.isEmpty = true then 0 else 1 + mW xs f (gn xs 64 l (gI l 0)).1
theorem pR {n : Nat} {xs : List Int} (hl : xs.length = n) (hn : n <= 20) (hx : ∀ x ∈ xs, 0 <= x /\ x < n) : ∀ (f : Nat) (l : List Int) (a : Int) (y3 : Option D), l.length < f -> l.length <= 20 -> (∀ x ∈ l, 0 <= x /\ x < n) -> ∃ z3, di OC OB f [some (.tup (xs.map D.int)), some (.int a), some (.ref 0), y3] [.lst (l.map D.int)] = .ok (.nx [some (.tup (xs.map D.int)), some (.int (a + mW xs f l)), some (.ref 0), z3]) [.lst []]
  | 0, l, a, y3, hf, _, _ => by omega
  | f + 1, l, a, y3, hf, h20, lr => by
    have nn := ne_nil (h := [.lst (l.map D.int)]) (n := 0) (ds := l.map D.int) rfl
    cases l with
    | nil =>
      refine ⟨y3, ?_⟩
      have c1 : OC [some (.tup (xs.map D.int)), some (.int a), some (.ref 0), y3] [.lst []] = .ok false [.lst []] := by
        simp only [List.map_nil] at nn
        simp [OC, nn]
      rw [List.map_nil]
      unfold di
      rw [c1, bH]
      simp [mW]
    | cons b r =>
      obtain ⟨b0, b1⟩ := lr b List.mem_cons_self
      obtain ⟨q, q1, q2, q3⟩ := pQ (n := n) (xs := xs) (y1 := some (.int (a + 1))) hl hx 64 (b :: r) b (by simp at h20 ⊢; omega) (by simp at h20 ⊢; omega) b0 b1
      have q3 := q3 (by simp)
      obtain ⟨z3, o⟩ := pR hl hn hx f (gn xs 64 (b :: r) b).1 (a + 1) (some (.int (gn xs 64 (b :: r) b).2)) (by simp only [List.length_cons] at hf q3; omega) (by omega) (fun x hx => lr x (q2 x hx))
      refine ⟨z3, ?_⟩
      have e : mW xs (f + 1) (b :: r) = 1 + mW xs f (gn xs 64 (b :: r) b).1 := rfl
      have c1 : OC [some (.tup (xs.map D.int)), some (.int a), some (.ref 0), y3] [.lst ((b :: r).map D.int)] = .ok true [.lst ((b :: r).map D.int)] := by
        rw [List.map_cons] at nn ⊢
        simp [OC, nn]
      have bb : OB [some (.tup (xs.map D.int)), some (.int a), some (.ref 0), y3] [.lst ((b :: r).map D.int)] = .ok (.nx [some (.tup (xs.map D.int)), some (.int (a + 1)), some (.ref 0), some (.int (gn xs 64 (b :: r) b).2)]) [.lst ((gn xs 64 (b :: r) b).1.map D.int)] := by
        have ix : dIx (.ref 0) (.int 0) [.lst ((b :: r).map D.int)] = .ok (.int b) [.lst ((b :: r).map D.int)] := by
          rw [kZ rfl, List.map_cons]; exact xr
        have cw : ∀ env h, gB 64 IC IB env h = di IC IB 64 env h := fun _ _ => rfl
        generalize (gn xs 64 (b :: r) b).1.map D.int = W1 at *
        generalize (b :: r).map D.int = W0 at *
        simp [OB, ix, q, cw]
      unfold di
      rw [c1, bH, if_pos rfl, bb, bH, e]
      have ea : a + 1 + (mW xs f (gn xs 64 (b :: r) b).1 : Int) = a + ((1 + mW xs f (gn xs 64 (b :: r) b).1 : Nat) : Int) := by omega
      rw [ea] at o
      exact o
noncomputable def rmI (xs : List Int) : Nat := mW xs 64 (kG 0 xs.length)
theorem vH {n : Nat} {xs : List Int} {h : Hh} (hl : xs.length = n) (hn : n <= 20) (hx : ∀ x ∈ xs, 0 <= x /\ x < n) : bA [.tup (xs.map D.int)] h = .ok (.int (rmI xs)) h := by
  have rg := uJ n
  obtain ⟨z3, q⟩ := pR hl hn hx 64 (kG 0 n) 0 none (by rw [kY]; omega) (by rw [kY]; omega) (fun x hx => ⟨rg.lo x hx, rg.hi x hx⟩)
  have e : bA = gj (fun ds h => ((cJ 4 (az (aY 1 (cC (.int 0))) (az (aY 2 (ah (fV kd) (aa (ah iA (aa (ag 0) aq)) aq))) (az (gB 64 OC OB) (cb (ag 1)))))) ds h).bind (cu h)) := rfl
  have lo1 : bS 0 [.tup (xs.map D.int)] = true := by simp [bS, dO]
  have ex : cu [] (.int (rmI xs)) [.lst []] = .ok (.int (rmI xs)) [] := by
    have := f9 (h := []) (t := [.lst []]) (d := .int (rmI xs)) Wf.nil rfl
    simpa using this
  have cw : ∀ env h, gB 64 OC OB env h = di OC OB 64 env h := fun _ _ => rfl
  have z1 : n <= 1000000 := by omega
  have er : mW xs 64 (kG 0 n) = rmI xs := by unfold rmI; rw [hl]
  rw [er, Int.zero_add, <- wj] at q
  have lx : (xs.map D.int).length = n := by simp [hl]
  rw [e]
  generalize xs.map D.int = XS at *
  simp [gj, lo1, bW, lx, z1, cw, q, ex, dO]
noncomputable def tpI (b : List Int) : D := .tup (b.map D.int)
noncomputable def fZ (n : Nat) (b : List Int) : List (List Int) := ((List.range n).filter fun (i : Nat) => !(b.any (· == (i : Int)))).map fun (i : Nat) => b ++ [(i : Int)]
noncomputable def allI (n : Nat) : Nat -> List (List Int)
  | 0 => [[]]
  | k + 1 => (allI n k).flatMap (fZ n)
theorem nD (n : Nat) (b : List Int) : (fZ n b).length <= n := by
  unfold fZ
  rw [List.length_map]
  exact Nat.le_trans (List.length_filter_le _ _) (by simp)
theorem ph (n : Nat) : ∀ L : List (List Int), (L.flatMap (fZ n)).length <= L.length * n
  | [] => by simp
  | b :: L => by
    rw [List.flatMap_cons, List.length_append, List.length_cons, Nat.succ_mul]
    have := nD n b; have := ph n L; omega
theorem qU (n : Nat) : ∀ k, (allI n k).length <= n ^ k
  | 0 => by simp [allI]
  | k + 1 => by
    rw [allI, Nat.pow_succ]
    exact Nat.le_trans (ph n _) (Nat.mul_le_mul_right n (qU n k))
theorem qv (n : Nat) : ∀ k, ∀ b ∈ allI n k, b.length = k /\ ∀ x ∈ b, 0 <= x /\ x < n
  | 0 => by intro b hb; simp [allI] at hb; subst hb; simp
  | k + 1 => by
    intro b hb
    rw [allI] at hb
    obtain ⟨c, hc, hb⟩ := List.mem_flatMap.mp hb
    obtain ⟨l, r⟩ := qv n k c hc
    unfold fZ at hb
    obtain ⟨i, hi, rfl⟩ := List.mem_map.mp hb
    have hi := List.mem_range.mp (List.mem_filter.mp hi).1
    refine ⟨by simp [l], fun x hx => ?_⟩
    rcases List.mem_append.mp hx with hx | hx
    · exact r x hx
    · rw [List.mem_singleton.mp hx]; omega
theorem sG {n k : Nat} (hn : n <= 7) (hk : k <= 7) : n ^ k <= 900000 :=
  Nat.le_trans (Nat.pow_le_pow_left hn k) (Nat.le_trans (Nat.pow_le_pow_right (by decide) hk) (by decide))
theorem t4 {n : Nat} {b : List Int} {h : Hh} (hb : b.length <= 1000) : cS (aZ asB (ak (dIn true) (ag 0) (ag 1))) (ak (bh au) (ag 1) (ah cj (aa (ag 0) aq))) (fun d => [some d, some (tpI b)]) (aP 0 n) h = .ok ((fZ n b).map tpI) h := by
  have z : b.length + 1 <= 1000000 := by omega
  rw [lu (fun (i : Nat) => !(b.any (· == (i : Int)))) (fun (i : Nat) => tpI (b ++ [(i : Int)]))]
  · simp [fZ, List.map_map]
    try rfl
  · intro i hi
    refine ⟨by simp [tpI], fun _ => by simp [tpI, z]⟩
theorem sT {σ X : Type} {tg : D -> En -> Hh -> R En} {body : MS} (n : Nat) (enc : X -> D) (xs : List X) (E : σ -> En) (G : σ -> Hh) (f : σ -> X -> σ) (I : Nat -> σ -> Prop) (hl : ∀ s, aD (G s) n = some (xs.map enc))
    (st : ∀ i x s, xs[i]? = some x -> I i s -> I (i + 1) (f s x) /\ (tg (enc x) (E s) (G s)).bind body = .ok (.nx (E (f s x))) (G (f s x))) :
    ∀ (k i : Nat) (s : σ), i + k = xs.length -> I i s -> gh (Src.live n).rdr tg body k i (E s) (G s) = .ok (.nx (E ((xs.drop i).foldl f s))) (G ((xs.drop i).foldl f s)) /\ I xs.length ((xs.drop i).foldl f s) := by
  intro k
  induction k with
  | zero =>
    intro i s e hi
    have : i = xs.length := by omega
    subst this
    rw [List.drop_length, List.foldl_nil]
    refine ⟨?_, hi⟩
    unfold gh
    simp [Src.rdr, hl]
  | succ k ih =>
    intro i s e hi
    have lt : i < xs.length := by omega
    obtain ⟨a, b⟩ := st i xs[i] s (List.getElem?_eq_getElem lt) hi
    have := ih (i + 1) (f s xs[i]) (by omega) a
    rw [List.drop_eq_getElem_cons lt, List.foldl_cons]
    refine ⟨?_, this.2⟩
    unfold gh
    have g : (Src.live n).rdr (G s) i = some (some (enc xs[i])) := by simp [Src.rdr, hl, List.getElem?_eq_getElem lt]
    rw [g]
    show (tg (enc xs[i]) (E s) (G s)).bind (fun e1 h1 => (body e1 h1).bind _) = _
    rw [<- cI, b]
    exact this.1
noncomputable def hpA (n t : Nat) : Hh := (List.range t).map fun k => O.lst ((allI n (k + 1)).map tpI)
theorem ko (n t : Nat) : (hpA n t).length = t := by simp [hpA]
theorem qm {n t : Nat} {r : Hh} (k : Nat) (hk : k < t) : aD (hpA n t ++ r) k = some ((allI n (k + 1)).map tpI) := by
  unfold aD
  rw [List.getElem?_append_left (by rw [ko]; exact hk)]
  simp [hpA, hk]
theorem Az (n t : Nat) : hpA n (t + 1) = hpA n t ++ [O.lst ((allI n (t + 1)).map tpI)] := by simp [hpA, List.range_succ]
noncomputable def BI : MS := eX (jz e_ (ag 3) (aa (cL au (dF gG (aa (ag 0) aq)) [4] (aZ asB (ak (dIn true) (ag 0) (ag 1))) (ak (bh au) (ag 1) (ah cj (aa (ag 0) aq)))) aq))
theorem xp {n t : Nat} {b : List Int} {acc : List (List Int)} {d1 d2 : Option D} (hn : n <= 7) (hb : b.length <= 7) (ha : acc.length + (fZ n b).length <= 1000000) : BI [some (.int n), d1, d2, some (.ref t), some (tpI b)] (hpA n t ++ [.lst (acc.map tpI)]) = .ok (.nx [some (.int n), d1, d2, some (.ref t), some (tpI b)]) (hpA n t ++ [.lst ((acc ++ fZ n b).map tpI)]) := by
  have q := t4 (n := n) (b := b) (h := hpA n t ++ [.lst (acc.map tpI)]) (by omega)
  have l : aD (hpA n t ++ [.lst (acc.map tpI)]) t = some (acc.map tpI) := by
    have := g_ (h := hpA n t) (ds := acc.map tpI) (t := [])
    rw [ko] at this; exact this
  have ex : e_ (.ref t) [.frl ((fZ n b).map tpI)] (hpA n t ++ [.lst (acc.map tpI)]) = .ok .non (hpA n t ++ [.lst (acc.map tpI ++ (fZ n b).map tpI)]) := by
    have := si (h := hpA n t) (ds := acc.map tpI) (ys := (fZ n b).map tpI) (t := [])
    rw [ko, if_pos (by simpa using ha)] at this; exact this
  have z : n <= 1000000 := by omega
  simp [BI, xS l, z, q, ex]
theorem uT {n t : Nat} {d2 d4 : Option D} (hn : n <= 7) (ht : t + 2 <= 7) : ∃ d4', gh (Src.live t).rdr (gN 4) BI (allI n (t + 1)).length 0 [some (.int n), some (.ref t), d2, some (.ref (t + 1)), d4] (hpA n (t + 1) ++ [.lst []]) = .ok (.nx [some (.int n), some (.ref t), d2, some (.ref (t + 1)), d4']) (hpA n (t + 2)) := by
  have pl : (allI n (t + 1)).length * n <= 900000 := Nat.le_trans (Nat.mul_le_mul_right n (qU n (t + 1))) (by rw [<- Nat.pow_succ]; exact sG hn ht)
  obtain ⟨q, q2⟩ := sT (σ := Option D × List (List Int)) (tg := gN 4) (body := BI) t tpI (allI n (t + 1)) (fun s => [some (.int n), some (.ref t), d2, some (.ref (t + 1)), s.1]) (fun s => hpA n (t + 1) ++ [.lst (s.2.map tpI)]) (fun s b => (some (tpI b), s.2 ++ fZ n b))
    (fun i s => s.2.length <= i * n) (fun s => qm t (by omega)) (fun i x s hx hi => by
      have hx' : x ∈ allI n (t + 1) := List.mem_of_getElem? hx
      have lx := (qv n (t + 1) x hx').1
      have il : i < (allI n (t + 1)).length := (List.getElem?_eq_some_iff.mp hx).1
      have el := nD n x
      refine ⟨by simp only [List.length_append]; rw [Nat.succ_mul]; omega, ?_⟩
      have bd : s.2.length + (fZ n x).length <= 1000000 := by
        have := Nat.mul_le_mul_right n (show i + 1 <= (allI n (t + 1)).length from il)
        rw [Nat.succ_mul] at this
        omega
      simp [xp (n := n) (t := t + 1) (b := x) (acc := s.2) (d1 := some (.ref t)) (d2 := d2) hn (by omega) bd]) (allI n (t + 1)).length 0 (d4, []) (by omega) (by simp)
  have fd : ∀ (L : List (List Int)) (s : Option D × List (List Int)), (L.foldl (fun (s : Option D × List (List Int)) b => (some (tpI b), s.2 ++ fZ n b)) s).2 = s.2 ++ L.flatMap (fZ n) := by
    intro L
    induction L with
    | nil => intro s; simp
    | cons b L ih => intro s; rw [List.foldl_cons, ih, List.flatMap_cons, List.append_assoc]
  rw [List.drop_zero, fd, List.nil_append] at q
  refine ⟨((allI n (t + 1)).foldl (fun (s : Option D × List (List Int)) b => (some (tpI b), s.2 ++ fZ n b)) (d4, [])).1, ?_⟩
  rw [Az n (t + 1), show allI n (t + 1 + 1) = (allI n (t + 1)).flatMap (fZ n) from rfl]
  exact q
noncomputable def BO : MS := (az (aY 3 (ah (bU kd) aq)) (az (cR (cK (ag 1)) (gN 4) BI) (aY 1 (ag 3))))
noncomputable def slot1 : Nat -> D
  | 0 => .frl [.tup []]
  | t + 1 => .ref t
theorem A9 {n t : Nat} {d2 d3 d4 : Option D} (hn : n <= 7) (ht : t < n) : ∃ d3' d4', BO [some (.int n), some (slot1 t), d2, d3, d4] (hpA n t) = .ok (.nx [some (.int n), some (slot1 (t + 1)), d2, d3', d4']) (hpA n (t + 1)) := by
  cases t with
  | zero =>
    have b := xp (n := n) (t := 0) (b := []) (acc := []) (d1 := some (.frl [.tup []])) (d2 := d2) hn (by simp) (by have := nD n []; simp; omega)
    have e0 : hpA n 0 = [] := rfl
    have e1 : hpA n 1 = [.lst ((fZ n []).map tpI)] := by simp [hpA, allI]
    rw [e0] at b
    simp only [List.nil_append, List.map_nil, tpI] at b
    refine ⟨some (.ref 0), some (.tup []), ?_⟩
    rw [e0, e1]
    simp [BO, slot1, fL, iX, b]
  | succ t =>
    obtain ⟨d4', q⟩ := uT (n := n) (t := t) (d2 := d2) (d4 := d4) hn (by omega)
    have l : aD (hpA n (t + 1) ++ [.lst []]) t = some ((allI n (t + 1)).map tpI) := qm t (by omega)
    refine ⟨some (.ref (t + 1)), d4', ?_⟩
    have nl : ∀ h : Hh, bU kd [] h = .ok (.ref h.length) (h ++ [.lst []]) := fun h => by simp
    have sk : yF (gN 4) BI [some (.int n), some (.ref t), d2, some (.ref (t + 1)), d4] (.live t) (hpA n (t + 1) ++ [.lst []]) = .ok (.nx [some (.int n), some (.ref t), d2, some (.ref (t + 1)), d4']) (hpA n (t + 2)) := by
      show gh (Src.live t).rdr (gN 4) BI ((aD (hpA n (t + 1) ++ [.lst []]) t).getD []).length 0 _ _ = _
      rw [l, Option.getD_some, List.length_map]
      exact q
    simp [BO, slot1, ko, AW l, sk]
theorem oS {n : Nat} (hn : n <= 7) : ∀ (k j : Nat) (d2 d3 d4 : Option D), j + k = n -> ∃ d2' d3' d4', dW (gN 2) BO (((List.range k).map fun i => j + i).map fun (i : Nat) => D.int i) [some (.int n), some (slot1 j), d2, d3, d4] (hpA n j) = .ok (.nx [some (.int n), some (slot1 n), d2', d3', d4']) (hpA n n)
  | 0, j, d2, d3, d4, e => ⟨d2, d3, d4, by
      have : j = n := by omega
      subst this
      simp [iX]⟩
  | k + 1, j, d2, d3, d4, e => by
    obtain ⟨e3, e4, b⟩ := A9 (n := n) (t := j) (d2 := some (.int j)) (d3 := d3) (d4 := d4) hn (by omega)
    obtain ⟨d2', d3', d4', q⟩ := oS hn k (j + 1) (some (.int j)) e3 e4 (by omega)
    refine ⟨d2', d3', d4', ?_⟩
    have er : ((List.range (k + 1)).map fun i => j + i) = j :: (List.range k).map fun i => (j + 1) + i := by
      rw [List.range_succ_eq_map, List.map_cons, List.map_map]
      congr 1
      apply List.map_congr_left
      intro i _
      simp; omega
    rw [er, List.map_cons, fL]
    generalize (((List.range k).map fun i => (j + 1) + i).map fun (i : Nat) => D.int i) = TL at q ⊢
    simp [b, q]
theorem vN {H : Hh} {k : Nat} {ds : List D} (e : aD H k = some ds) (l : ds.all (deep 7) = true) : cu [] (.ref k) H = .ok (.frl ds) [] := by
  have fz : eO 0 H 8 (.ref k) = some (.frl ds) := by
    unfold eO
    simp only [Nat.not_lt_zero, if_false, e]
    rw [i5 fun d hd => fJ 7 d (List.all_eq_true.mp l d hd)]
    rfl
  unfold cu
  simp [fz]
theorem uB (L : List (List Int)) : (L.map tpI).all (deep 7) = true := by
  rw [List.all_map, List.all_eq_true]
  intro b _
  simp [tpI]
theorem v7 (L : List (List Int)) : bS 0 (L.map tpI) = true := mM fun b => by simp [tpI, dO]
theorem zO {n : Nat} (h1 : 1 <= n) (hn : n <= 7) (h : Hh) : dG [.int n] h = .ok (.frl ((allI n n).map tpI)) h := by
  obtain ⟨d2, d3, d4, q⟩ := oS hn n 0 none none none (by omega)
  have q' : dW (gN 2) BO (aP 0 n) [some (.int n), some (.frl [.tup []]), none, none, none] [] = .ok (.nx [some (.int n), some (slot1 n), d2, d3, d4]) (hpA n n) := by
    rw [gW]
    have : ((List.range n).map fun i => 0 + i) = List.range n := by simp
    rw [this] at q
    exact q
  obtain ⟨k, rfl⟩ : ∃ k, n = k + 1 := ⟨n - 1, by omega⟩
  have l : aD (hpA (k + 1) (k + 1)) k = some ((allI (k + 1) (k + 1)).map tpI) := by
    have := qm (n := k + 1) (t := k + 1) (r := []) k (by omega)
    simpa using this
  have ex := vN l (uB _)
  have z : k + 1 <= 1000000 := by omega
  have me : dG = gj (fun ds h => ((cJ 5 (az (aY 1 (ah (bU au) (aa (ah cj aq) aq))) (az (cR (dF gG (aa (ag 0) aq)) (gN 2) BO) (cb (ag 1))))) ds h).bind (cu h)) := rfl
  have lo : bS 0 [D.int ((k + 1 : Nat) : Int)] = true := by simp [bS, dO]
  have lo2 : dO 0 (.frl ((allI (k + 1) (k + 1)).map tpI)) = true := by simp only [dO]; exact v7 _
  rw [me]
  generalize hK : ((k + 1 : Nat) : Int) = K1 at q' lo ⊢
  have z1 : K1.natAbs <= 1000000 := by omega
  have z2 : K1.toNat = k + 1 := by omega
  simp [gj, lo, bW, z1, z2, q', slot1, ex, lo2]
noncomputable def LRn (m : Nat) (R : List Int) : List Int := ((m : Int) * gI R 0) :: (List.range 21).map fun (i : Nat) => (m : Int) * gI R (i + 1) + gI R i
noncomputable def ckB (n : Nat) (B : List (List Int)) (R : List Int) : Bool := (List.range 21).all fun r => (if r <= n then ((List.range (n + 1)).map fun k => g2 B r k).sum else 0) == gI R r
noncomputable def ckW : Nat -> Nat -> List (List Int) -> List Int -> Bool
  | 0, _, _, _ => true
  | f + 1, m, B, R => ckB m B R && frM (fS 20 (bnI (m + 1) (g2 B))) fun B' => frL (LRn m R) fun R' => ckW f (m + 1) B' R'
theorem qH : ∀ (f m : Nat), ckW f m (BT 20 m) (LR m) = true -> ∀ i, i < f -> ckB (m + i) (BT 20 (m + i)) (LR (m + i)) = true
  | 0, m, _, i, hi => by omega
  | f + 1, m, e, i, hi => by
    unfold ckW at e
    rw [Bool.and_eq_true, uk, nP] at e
    obtain ⟨e1, e2⟩ := e
    cases i with
    | zero => exact e1
    | succ i =>
      have := qH f (m + 1) e2 i (by omega)
      rw [show m + (i + 1) = m + 1 + i by omega]
      exact this
theorem B4 : ckW 21 0 (BT 20 0) (LR 0) = true := by decide +kernel
theorem nE {n : Nat} (hn : n <= 20) : ∀ s r k, r <= n -> k <= n -> g2 (BT n s) r k = g2 (BT 20 s) r k
  | 0, r, k, hr, hk => by
    show g2 (fS n _) r k = g2 (fS 20 _) r k
    rw [eg, eg, if_pos (show r <= n /\ k <= n from ⟨hr, hk⟩), if_pos (show r <= 20 /\ k <= 20 from ⟨by omega, by omega⟩)]
  | s + 1, r, k, hr, hk => by
    show g2 (fS n _) r k = g2 (fS 20 _) r k
    rw [eg, eg, if_pos (show r <= n /\ k <= n from ⟨hr, hk⟩), if_pos (show r <= 20 /\ k <= 20 from ⟨by omega, by omega⟩)]
    unfold bnI
    rw [nE hn s (r - 1) k (by omega) hk, nE hn s r k hr hk, nE hn s r (k - 1) hr (by omega)]
theorem zX {n r : Nat} {h : Hh} (h1 : 1 <= n) (hn : n <= 20) (hr : r <= 20) : aW [.int n, .int r] h = .ok (.int (gI (LR n) r)) h := by
  have c := qH 21 0 B4 n (by omega)
  rw [Nat.zero_add] at c
  unfold ckB at c
  have c := eq_of_beq (List.all_eq_true.mp c r (List.mem_range.mpr (by omega)))
  rw [<- c]
  by_cases z : r <= n
  · have e : ((List.range (n + 1)).map fun k => g2 (BT 20 n) r k) = (BT n n).getD r [] := by
      rw [<- wH z]
      refine List.map_congr_left fun k hk => ?_
      have hk := List.mem_range.mp hk
      unfold bcI
      rw [if_pos ⟨z, by omega⟩, nE hn n r k z (by omega)]
    rw [if_pos z, e]
    exact tW h1 hn z
  · have z1 : (1 : Int) <= n /\ (n : Int) <= 20 := by omega
    have z2 : (0 : Int) <= r /\ (r : Int) <= 20 := by omega
    have n1 := dv (h := h) z1
    have n2 := dv (h := h) z2
    have z' : ¬ (r : Int) <= n := by omega
    rw [if_neg z]
    simp [aW, bW, n1, n2, z']
theorem u_ {n r k : Nat} (hn : n <= 20) : sml (bcI n r k) = true := by
  unfold bcI
  split
  · exact qq hn (Nat.le_refl _)
  · decide +kernel
theorem uE {n k : Nat} (h1 : 1 <= n) (hn : n <= 20) : sml (gI (NR n).2 k) = true := by
  obtain ⟨_, _, _, b2⟩ := pF n h1 hn
  exact dE (Nat.le_trans (b2 k) (Nat.le_trans (Nat.pow_le_pow_right (by decide) hn) (by decide +kernel)))
noncomputable def lC (n : Nat) (o : List Int) : Nat := ((List.range n).filter fun (i : Nat) => decide (gI o i < (i : Int))).length
noncomputable def sC (n : Nat) (o : List Int) : Bool := ((List.range n).filter fun (i : Nat) => gI o i == (i : Int)).isEmpty
noncomputable def fA (r : Nat) (o : List Int) : Int := if rmI o = r then 1 else 0
noncomputable def fB (n r k : Nat) (o : List Int) : Int := if rmI o = r /\ lC n o = k then 1 else 0
noncomputable def fC (n k : Nat) (o : List Int) : Int := if lC n o = k /\ sC n o = true then 1 else 0
noncomputable def cod (n : Nat) (o : List Int) : Int := 100 * (rmI o : Int) + 10 * (lC n o : Int) + (if sC n o = true then 1 else 0)
noncomputable def ckS (n : Nat) : Bool := frL ((allI n n).map (cod n)) fun cs => (List.range 7).all fun r => (List.range 7).all fun k => ((cs.map fun c => if c / 100 = (r : Int) then 1 else 0).sum == gI (LR n) r) && ((cs.map fun c => if c / 10 = 10 * (r : Int) + k then 1 else 0).sum == bcI n r k) && ((cs.map fun c => if c % 100 = 10 * (k : Int) + 1 then 1 else 0).sum == gI (NR n).2 k)
theorem Ak : ckS 1 = true := by decide +kernel
theorem An : ckS 2 = true := by decide +kernel
theorem Ai : ckS 3 = true := by decide +kernel
theorem AG : ckS 4 = true := by decide +kernel
theorem AZ : ckS 5 = true := by decide +kernel
theorem zN : ckS 6 = true := by decide +kernel
noncomputable abbrev CT := List (List Int × Int)
noncomputable def dY : CT -> List Int -> Option Int
  | [], _ => none
  | p :: r, k => if p.1 = k then some p.2 else dY r k
noncomputable def kS (C : CT) (k : List Int) (v : Int) : CT := if (C.any fun kv => decide (kv.1 = k)) = true then C.map (fun kv => if kv.1 = k then (kv.1, v) else kv) else C ++ [(k, v)]
noncomputable def eK (k : List Int) : List Key := k.map Sum.inl
noncomputable def encC (C : CT) : List (List Key × D) := C.map fun p => (eK p.1, .int p.2)
theorem oa : ∀ {a b : List Int}, eK a = eK b -> a = b
  | [], [], _ => rfl
  | [], _ :: _, h => by simp [eK] at h
  | _ :: _, [], h => by simp [eK] at h
  | a :: r, b :: t, h => by
    unfold eK at h
    rw [List.map_cons, List.map_cons] at h
    obtain ⟨h1, h2⟩ := List.cons.inj h
    cases h1
    rw [oa h2]
theorem yZ (a b : List Int) : decide (eK a = eK b) = decide (a = b) := by
  by_cases c : a = b
  · rw [c]; simp
  · have : ¬ eK a = eK b := fun z => c (oa z)
    simp [c, this]
theorem iM (k : List Int) : ∀ C : CT, m8 (encC C) (eK k) = (dY C k).map D.int
  | [] => rfl
  | p :: r => by
    show (if eK p.1 = eK k then some (D.int p.2) else m8 (encC r) (eK k)) = (if p.1 = k then some p.2 else dY r k).map D.int
    by_cases c : p.1 = k
    · rw [if_pos c, if_pos (by rw [c])]; rfl
    · rw [if_neg c, if_neg (fun z => c (oa z)), iM k r]
theorem uW (C : CT) (k : List Int) (v : Int) : uu (encC C) (eK k) (.int v) = encC (kS C k v) := by
  have a : ((encC C).any fun kv => decide (kv.1 = eK k)) = C.any fun kv => decide (kv.1 = k) := by
    unfold encC
    rw [List.any_map]
    congr 1
    funext p
    exact yZ p.1 k
  unfold uu kS
  rw [a]
  by_cases c : (C.any fun kv => decide (kv.1 = k)) = true
  · rw [if_pos c, if_pos c]
    unfold encC
    rw [List.map_map, List.map_map]
    refine List.map_congr_left fun p _ => ?_
    show (if eK p.1 = eK k then (eK p.1, D.int v) else (eK p.1, .int p.2)) = ((eK (if p.1 = k then (p.1, v) else p).1), D.int (if p.1 = k then (p.1, v) else p).2)
    by_cases z : p.1 = k
    · rw [if_pos z, if_pos (by rw [z])]
    · rw [if_neg z, if_neg (fun q => z (oa q))]
  · rw [if_neg c, if_neg c]
    unfold encC
    rw [List.map_append]; rfl
theorem lY : ∀ o : List Int, kz (o.map D.int) = some (eK o)
  | [] => rfl
  | a :: r => by
    have := lY r
    rw [List.map_cons]
    unfold kz
    rw [this]; rfl
theorem k9 (o : List Int) : jJ (.tup (o.map D.int)) = some (eK o) := lY o
theorem vd (o : List Int) : tupK (eK o) = .tup (o.map D.int) := by
  unfold tupK eK
  rw [List.map_map]; rfl
theorem oV {k q : List Int} {v : Int} : ∀ C : CT, dY (C.map fun kv => if kv.1 = k then (kv.1, v) else kv) q = if q = k then (if (C.any fun kv => decide (kv.1 = k)) = true then some v else none) else dY C q
  | [] => by simp [dY]
  | p :: C => by
    have ih := oV (k := k) (q := q) (v := v) C
    rw [List.map_cons, List.any_cons]
    by_cases c : p.1 = k
    · rw [if_pos c]
      show (if p.1 = q then some v else dY (C.map _) q) = _
      by_cases z : q = k
      · rw [if_pos (by rw [c, z]), if_pos z, if_pos (by simp [c])]
      · rw [if_neg (fun e => z (by rw [<- e, c])), ih, if_neg z, if_neg z]
        show _ = if p.1 = q then some p.2 else dY C q
        rw [if_neg (fun e => z (by rw [<- e, c]))]
    · rw [if_neg c]
      show (if p.1 = q then some p.2 else dY (C.map _) q) = _
      by_cases z : q = k
      · rw [if_neg (fun e => c (by rw [e, z])), ih, if_pos z, if_pos z, show decide (p.1 = k) = false from decide_eq_false c, Bool.false_or]
      · rw [ih, if_neg z, if_neg z]; rfl
theorem oX {k q : List Int} {v : Int} : ∀ C : CT, dY (C ++ [(k, v)]) q = match dY C q with | some w => some w | none => if k = q then some v else none
  | [] => rfl
  | p :: C => by
    show (if p.1 = q then some p.2 else dY (C ++ [(k, v)]) q) = match (if p.1 = q then some p.2 else dY C q) with | some w => some w | none => if k = q then some v else none
    by_cases c : p.1 = q
    · rw [if_pos c, if_pos c]
    · rw [if_neg c, if_neg c, oX C]
theorem jF {k : List Int} : ∀ C : CT, (C.any fun kv => decide (kv.1 = k)) = false -> dY C k = none
  | [], _ => rfl
  | p :: C, h => by
    rw [List.any_cons, Bool.or_eq_false_iff] at h
    show (if p.1 = k then _ else _) = _
    rw [if_neg (of_decide_eq_false h.1), jF C h.2]
theorem tG (C : CT) (k q : List Int) (v : Int) : dY (kS C k v) q = if q = k then some v else dY C q := by
  unfold kS
  cases c : (C.any fun kv => decide (kv.1 = k)) with
  | true => rw [if_pos rfl, oV, c, if_pos rfl]
  | false =>
    rw [if_neg Bool.false_ne_true, oX]
    by_cases z : q = k
    · rw [z, jF C c, if_pos rfl]
    · rw [if_neg z]
      cases dY C q with
      | none => simp; exact fun e => z e.symm
      | some w => rfl
noncomputable def gC (C : CT) (q : List Int) : Int := (dY C q).getD 0
noncomputable def iU (C : CT) (k : List Int) (m : Int) : CT := kS C k (gC C k + m)
theorem nL (C : CT) (k q : List Int) (m : Int) : gC (iU C k m) q = gC C q + if q = k then m else 0 := by
  unfold gC iU
  rw [tG]
  by_cases z : q = k
  · rw [if_pos z, if_pos z, z]; rfl
  · rw [if_neg z, if_neg z]; omega
theorem tU {C : CT} {k : List Int} {v : Int} {p : List Int × Int} (h : p ∈ kS C k v) : p.1 = k \/ ∃ q ∈ C, q.1 = p.1 := by
  unfold kS at h
  split at h
  · obtain ⟨q, hq, e⟩ := List.mem_map.mp h
    by_cases c : q.1 = k
    · rw [if_pos c] at e; subst e; exact .inl c
    · rw [if_neg c] at e; subst e; exact .inr ⟨q, hq, rfl⟩
  · rcases List.mem_append.mp h with z | z
    · exact .inr ⟨p, z, rfl⟩
    · simp only [List.mem_singleton] at z; subst z; exact .inl rfl
theorem yG {C : CT} {k : List Int} {v : Int} (h : (C.map (·.1)).Nodup) : ((kS C k v).map (·.1)).Nodup := by
  unfold kS
  split
  · have e : (C.map fun kv => if kv.1 = k then (kv.1, v) else kv).map (·.1) = C.map (·.1) := by
      rw [List.map_map]
      refine List.map_congr_left fun p _ => ?_
      show (if p.1 = k then (p.1, v) else p).1 = p.1
      split <;> rfl
    rw [e]; exact h
  · rename_i c
    rw [List.map_append, List.nodup_append]
    refine ⟨h, by simp, fun a ha b hb => ?_⟩
    simp only [List.map_cons, List.map_nil, List.mem_singleton] at hb
    subst hb
    intro e
    subst e
    obtain ⟨q, hq, e⟩ := List.mem_map.mp ha
    exact c (List.any_eq_true.mpr ⟨q, hq, by simpa using e⟩)
theorem qO (C : CT) (k : List Int) (v : Int) : (kS C k v).length <= C.length + 1 := by
  unfold kS; split <;> simp
theorem nR {k : List Int} : ∀ (C : CT), (C.map (·.1)).Nodup -> (C.map fun p => if p.1 = k then p.2 else 0).sum = gC C k
  | [], _ => rfl
  | p :: C, h => by
    rw [List.map_cons, List.nodup_cons] at h
    have ih := nR (k := k) C h.2
    rw [List.map_cons, List.sum_cons, ih]
    unfold gC
    show _ = (if p.1 = k then some p.2 else dY C k).getD 0
    by_cases c : p.1 = k
    · have : dY C k = none := jF C (by
        cases z : (C.any fun kv => decide (kv.1 = k)) with
        | false => rfl
        | true =>
          obtain ⟨q, hq, e⟩ := List.any_eq_true.mp z
          exact absurd (List.mem_map.mpr ⟨q, hq, (of_decide_eq_true e).trans c.symm⟩) h.1)
      rw [if_pos c, if_pos c, this]
      show p.2 + 0 = p.2
      omega
    · rw [if_neg c, if_neg c]; omega
noncomputable def st3 (s : Nat) (L : CT) (p : List Int × Int) : CT := iU (iU (iU L [gI p.1 0 + 1, gI p.1 1 + 0] (p.2 * 1)) [gI p.1 0 + 0, gI p.1 1 + 0] (p.2 * gI p.1 1)) [gI p.1 0 + 0, gI p.1 1 + 1] (p.2 * ((s : Int) - gI p.1 1))
noncomputable def BC : Nat -> CT
  | 0 => [([0, 0], 1)]
  | s + 1 => (BC s).foldl (st3 s) []
structure BOk (s : Nat) (C : CT) : Prop where
  nd : (C.map (·.1)).Nodup
  ks : ∀ p ∈ C, ∃ r k : Nat, p.1 = [(r : Int), (k : Int)] /\ r <= s /\ k <= s
theorem t_ {s : Nat} {L : CT} {p : List Int × Int} (b : BOk (s + 1) L) (hp : ∃ r k : Nat, p.1 = [(r : Int), (k : Int)] /\ r <= s /\ k <= s) : BOk (s + 1) (st3 s L p) := by
  obtain ⟨r, k, e, hr, hk⟩ := hp
  unfold st3
  rw [e]
  have one : ∀ (M : CT) (a b : Int) (m : Int), BOk (s + 1) M -> (∃ r k : Nat, [a, b] = [(r : Int), (k : Int)] /\ r <= s + 1 /\ k <= s + 1) -> BOk (s + 1) (iU M [a, b] m) := fun M a b m o h => ⟨yG o.nd, fun q hq => by
    rcases tU hq with z | ⟨q', hq', z⟩
    · rw [z]; exact h
    · rw [<- z]; exact o.ks q' hq'⟩
  refine one _ _ _ _ (one _ _ _ _ (one _ _ _ _ b ⟨r + 1, k, ?_, by omega, by omega⟩) ⟨r, k, ?_, by omega, by omega⟩) ⟨r, k + 1, ?_, by omega, by omega⟩ <;> simp [gI]
theorem sV : ∀ s, BOk s (BC s)
  | 0 => ⟨by simp [BC], fun p hp => by simp [BC] at hp; subst hp; exact ⟨0, 0, rfl, by omega, by omega⟩⟩
  | s + 1 => by
    have b := sV s
    have key : ∀ (M : CT) (L : CT), (∀ p ∈ M, ∃ r k : Nat, p.1 = [(r : Int), (k : Int)] /\ r <= s /\ k <= s) -> BOk (s + 1) L -> BOk (s + 1) (M.foldl (st3 s) L) := fun M => by
      induction M with
      | nil => intro L _ h; exact h
      | cons p M ih => intro L hp h; exact ih _ (fun q hq => hp q (List.mem_cons_of_mem _ hq)) (t_ h (hp p List.mem_cons_self))
    exact key (BC s) [] b.ks ⟨by simp, fun p hp => by cases hp⟩
theorem qP {s : Nat} {r k : Int} : ∀ (M L : CT), (∀ p ∈ M, ∃ a b : Nat, p.1 = [(a : Int), (b : Int)]) -> gC (M.foldl (st3 s) L) [r, k] = gC L [r, k] + (M.map fun p => if p.1 = [r - 1, k] then p.2 else 0).sum + k * (M.map fun p => if p.1 = [r, k] then p.2 else 0).sum + ((s : Int) - (k - 1)) * (M.map fun p => if p.1 = [r, k - 1] then p.2 else 0).sum
  | [], L, _ => by simp
  | p :: M, L, h => by
    obtain ⟨a, b, e⟩ := h p List.mem_cons_self
    have ih := qP (s := s) (r := r) (k := k) M (st3 s L p) (fun q hq => h q (List.mem_cons_of_mem _ hq))
    rw [List.foldl_cons, ih, List.map_cons, List.map_cons, List.map_cons, List.sum_cons, List.sum_cons, List.sum_cons]
    have g : gC (st3 s L p) [r, k] = gC L [r, k] + (if p.1 = [r - 1, k] then p.2 else 0) + k * (if p.1 = [r, k] then p.2 else 0) + ((s : Int) - (k - 1)) * (if p.1 = [r, k - 1] then p.2 else 0) := by
      unfold st3
      rw [nL, nL, nL, e]
      have g0 : gI [(a : Int), (b : Int)] 0 = a := rfl
      have g1 : gI [(a : Int), (b : Int)] 1 = b := rfl
      rw [g0, g1]
      have c1 : ([r, k] = [(a : Int) + 1, (b : Int) + 0]) ↔ ([(a : Int), (b : Int)] = [r - 1, k]) := by
        simp; omega
      have c2 : ([r, k] = [(a : Int) + 0, (b : Int) + 0]) ↔ ([(a : Int), (b : Int)] = [r, k]) := by
        simp; omega
      have c3 : ([r, k] = [(a : Int) + 0, (b : Int) + 1]) ↔ ([(a : Int), (b : Int)] = [r, k - 1]) := by
        simp; omega
      simp only [c1, c2, c3]
      by_cases z2 : [(a : Int), (b : Int)] = [r, k]
      · have kb : k = (b : Int) := by simp at z2; omega
        by_cases z3 : [(a : Int), (b : Int)] = [r, k - 1]
        · exfalso; simp at z2 z3; omega
        · rw [if_pos z2, if_pos z2, if_neg z3, if_neg z3, kb, Int.mul_comm p.2 (b : Int), Int.mul_one]; simp
      · by_cases z3 : [(a : Int), (b : Int)] = [r, k - 1]
        · have kb : k - 1 = (b : Int) := by simp at z3; omega
          rw [if_neg z2, if_neg z2, if_pos z3, if_pos z3, kb, Int.mul_comm p.2 ((s : Int) - b), Int.mul_one]; simp
        · rw [if_neg z2, if_neg z2, if_neg z3, if_neg z3, Int.mul_one]; simp
    rw [g, Int.mul_add, Int.mul_add]
    omega
theorem tZ (s : Nat) (r k : Int) : gC (BC (s + 1)) [r, k] = gC (BC s) [r - 1, k] + k * gC (BC s) [r, k] + ((s : Int) - (k - 1)) * gC (BC s) [r, k - 1] := by
  have b := sV s
  show gC ((BC s).foldl (st3 s) []) [r, k] = _
  rw [qP (BC s) [] (fun p hp => by obtain ⟨a, c, e, _⟩ := b.ks p hp; exact ⟨a, c, e⟩), nR _ b.nd, nR _ b.nd, nR _ b.nd]
  show 0 + _ + _ + _ = _
  omega
theorem jy : ∀ (s : Nat) (r k : Int), (r < 0 \/ k < 0 \/ (s : Int) < r \/ (s : Int) < k) -> gC (BC s) [r, k] = 0
  | 0, r, k, h => by
    show (if [(0 : Int), 0] = [r, k] then some (1 : Int) else none).getD 0 = 0
    rw [if_neg (fun e => by simp at e; omega)]; rfl
  | s + 1, r, k, h => by
    rw [tZ]
    by_cases h1 : r < 0 \/ k < 0 \/ ((s : Int) + 1) < r \/ ((s : Int) + 1) < k
    · rw [jy s (r - 1) k (by omega), jy s r k (by omega), jy s r (k - 1) (by omega)]; simp
    · omega
theorem ow {n : Nat} : ∀ s, s <= n -> ∀ r k : Nat, r <= n -> k <= n -> gC (BC s) [(r : Int), (k : Int)] = g2 (BT n s) r k
  | 0, _, r, k, hr, hk => by
    show (if [(0 : Int), 0] = [(r : Int), (k : Int)] then some (1 : Int) else none).getD 0 = g2 (fS n _) r k
    rw [eg, if_pos (show r <= n /\ k <= n from ⟨hr, hk⟩)]
    by_cases c : r = 0 /\ k = 0
    · obtain ⟨rfl, rfl⟩ := c; rfl
    · rw [if_neg c, if_neg (fun e => c (by simp at e; omega))]; rfl
  | s + 1, hs, r, k, hr, hk => by
    show _ = g2 (fS n _) r k
    rw [eg, if_pos (show r <= n /\ k <= n from ⟨hr, hk⟩), tZ]
    unfold bnI
    rw [ow s (by omega) r k hr hk]
    have e1 : gC (BC s) [(r : Int) - 1, (k : Int)] = if 0 < r then g2 (BT n s) (r - 1) k else 0 := by
      by_cases c : 0 < r
      · rw [if_pos c, <- ow s (by omega) (r - 1) k (by omega) hk, show ((r - 1 : Nat) : Int) = (r : Int) - 1 by omega]
      · rw [if_neg c]; exact jy s _ _ (by omega)
    have e2 : ((s : Int) - ((k : Int) - 1)) * gC (BC s) [(r : Int), (k : Int) - 1] = if 0 < k then (((s + 1 : Nat) : Int) - k) * g2 (BT n s) r (k - 1) else 0 := by
      by_cases c : 0 < k
      · rw [if_pos c, <- ow s (by omega) r (k - 1) hr (by omega), show ((k - 1 : Nat) : Int) = (k : Int) - 1 by omega, show (s : Int) - ((k : Int) - 1) = ((s + 1 : Nat) : Int) - k by omega]
      · rw [if_neg c, jy s _ _ (by omega), Int.mul_zero]
    rw [e1, e2]
theorem Au {n r k : Nat} : gC (BC n) [(r : Int), (k : Int)] = bcI n r k := by
  unfold bcI
  by_cases c : r <= n /\ k <= n
  · rw [if_pos c, ow n (Nat.le_refl _) r k c.1 c.2]
  · rw [if_neg c]; exact jy n _ _ (by omega)
theorem xX {n s : Nat} {r k : Nat} (hn : n <= 20) (hs : s <= n) (hr : r <= n) (hk : k <= n) : sml (gC (BC s) [(r : Int), (k : Int)]) = true := by
  rw [ow s hs r k hr hk]; exact qq hn hs
noncomputable def hpD (s : Nat) (L : CT) : Hh := ((List.range (s + 1)).map fun j => O.dit (encC (BC j))) ++ [.dit (encC L)]
theorem xK {s : Nat} {L : CT} : cM (hpD s L) s = some (encC (BC s)) := by
  unfold cM hpD
  rw [List.getElem?_append_left (by simp), List.getElem?_map, List.getElem?_range (by omega)]; rfl
theorem uA {s : Nat} {L : CT} : cM (hpD s L) (s + 1) = some (encC L) := by
  unfold cM hpD
  rw [List.getElem?_append_right (by simp)]; simp
theorem we {s : Nat} {L M : CT} : (hpD s L).set (s + 1) (.dit (encC M)) = hpD s M := by
  unfold hpD
  rw [List.set_append_right _ _ (by simp)]; simp
theorem yr (s : Nat) : hpD s (BC (s + 1)) = (List.range (s + 2)).map fun j => O.dit (encC (BC j)) := by
  unfold hpD
  rw [List.range_succ (n := s + 1), List.map_append]; rfl
noncomputable def INB : MS := (az (aY 11 (ah cj (aa (ak (bh au) (ag 6) (ak dIx (ag 9) (cC (.int 0)))) (aa (ak (bh au) (ag 7) (ak dIx (ag 9) (cC (.int 1)))) aq)))) (eE mG (ag 5) (ag 11) (ak (bh au) (fW (ag 5) (ag 11) (cC (.int 0))) (ak (cp au) (ag 8) (ag 10)))))
theorem p0 {s : Nat} {L : CT} {r k m a b c : Int} {d0 d1 d2 d3 d4 y11 : Option D} (sm : sml m = true) (sc : sml c = true) (hL : L.length <= 900000) : INB [d0, d1, d2, d3, d4, some (.ref (s + 1)), some (.int r), some (.int k), some (.int m), some (.tup [.int a, .int b]), some (.int c), y11] (hpD s L) = .ok (.nx [d0, d1, d2, d3, d4, some (.ref (s + 1)), some (.int r), some (.int k), some (.int m), some (.tup [.int a, .int b]), some (.int c), some (.tup [.int (r + a), .int (k + b)])]) (hpD s (iU L [r + a, k + b] (m * c))) := by
  have ky : jJ (.tup [.int (r + a), .int (k + b)]) = some (eK [r + a, k + b]) := k9 [r + a, k + b]
  have gt : fW (ag 5) (ag 11) (cC (.int 0)) [d0, d1, d2, d3, d4, some (.ref (s + 1)), some (.int r), some (.int k), some (.int m), some (.tup [.int a, .int b]), some (.int c), some (.tup [.int (r + a), .int (k + b)])] (hpD s L) = .ok (.int (gC L [r + a, k + b])) (hpD s L) := by
    unfold fW
    show (match cM (hpD s L) (s + 1) with | some _ => _ | none => R.bad) = _
    rw [uA]
    show jN (.ref (s + 1)) (.tup [.int (r + a), .int (k + b)]) (.int 0) (hpD s L) = _
    unfold jN
    rw [ky]
    dsimp only
    rw [uA]
    dsimp only
    rw [iM]
    unfold gC
    cases dY L [r + a, k + b] <;> rfl
  have pu : mG (.ref (s + 1)) (.tup [.int (r + a), .int (k + b)]) (.int (gC L [r + a, k + b] + m * c)) (hpD s L) = .ok () (hpD s (iU L [r + a, k + b] (m * c))) := by
    unfold mG
    rw [ky]
    dsimp only
    rw [uA]
    dsimp only
    rw [if_pos (by unfold encC; rw [List.length_map]; omega), uW, we]
    rfl
  generalize hpD s (iU L [r + a, k + b] (m * c)) = H2 at *
  generalize hpD s L = H1 at *
  have i0 : ∀ H : Hh, ixK [.int a, .int b] 0 H = .ok (.int a) H := fun H => xr
  have i1 : ∀ H : Hh, ixK [.int a, .int b] 1 H = .ok (.int b) H := fun H => f_ (j := 1) rfl rfl
  simp [INB, i0, i1, gt, sm, sc, pu]
theorem qT {X : Type} [DecidableEq X] : ∀ (as bs : List X), as.Nodup -> (∀ a ∈ as, a ∈ bs) -> as.length <= bs.length
  | [], bs, _, _ => Nat.zero_le _
  | a :: as, bs, nd, s => by
    obtain ⟨h1, h2⟩ := List.nodup_cons.mp nd
    have hm := s a List.mem_cons_self
    have ih := qT as (bs.erase a) h2 fun x hx => by
      have hx' := s x (List.mem_cons_of_mem _ hx)
      have ne : x ≠ a := fun e => h1 (e ▸ hx)
      exact (List.mem_erase_of_ne ne).mpr hx'
    rw [List.length_erase_of_mem hm] at ih
    have : 0 < bs.length := List.length_pos_of_mem hm
    simp only [List.length_cons]
    omega
noncomputable def grd (s : Nat) : List (List Int) := (List.range ((s + 1) * (s + 1))).map fun i => [((i / (s + 1) : Nat) : Int), ((i % (s + 1) : Nat) : Int)]
theorem BOk.len {s : Nat} {C : CT} (b : BOk s C) : C.length <= (s + 1) * (s + 1) := by
  have := qT (C.map (·.1)) (grd s) b.nd (fun a ha => by
    obtain ⟨p, hp, rfl⟩ := List.mem_map.mp ha
    obtain ⟨r, k, e, hr, hk⟩ := b.ks p hp
    rw [e]
    refine List.mem_map.mpr ⟨r * (s + 1) + k, List.mem_range.mpr ?_, ?_⟩
    · have : r * (s + 1) <= s * (s + 1) := Nat.mul_le_mul_right _ hr
      have : (s + 1) * (s + 1) = s * (s + 1) + (s + 1) := by rw [Nat.succ_mul]
      omega
    · have e1 : (r * (s + 1) + k) / (s + 1) = r := by
        rw [Nat.mul_comm, Nat.mul_add_div (by omega), Nat.div_eq_of_lt (by omega)]; omega
      have e2 : (r * (s + 1) + k) % (s + 1) = k := by
        rw [Nat.mul_comm, Nat.mul_add_mod, Nat.mod_eq_of_lt (by omega)]
      rw [e1, e2])
  simpa [grd] using this
theorem qI : ∀ {C : CT}, (C.map (·.1)).Nodup -> ∀ p ∈ C, dY C p.1 = some p.2
  | [], _, p, h => by cases h
  | q :: C, nd, p, h => by
    rw [List.map_cons, List.nodup_cons] at nd
    show (if q.1 = p.1 then some q.2 else dY C p.1) = some p.2
    rcases List.mem_cons.mp h with rfl | h
    · rw [if_pos rfl]
    · rw [if_neg (fun e => nd.1 (List.mem_map.mpr ⟨p, h, e.symm⟩))]
      exact qI nd.2 p h
noncomputable def KB : MS := (az (aY 8 (ak mD (ag 3) (ah cj (aa (ag 6) (aa (ag 7) aq))))) (cR (cK (ah (bU au) (aa (ah cj (aa (ah cj (aa (cC (.int 1)) (aa (cC (.int 0)) aq))) (aa (cC (.int 1)) aq))) (aa (ah cj (aa (ah cj (aa (cC (.int 0)) (aa (cC (.int 0)) aq))) (aa (ag 7) aq))) (aa (ah cj (aa (ah cj (aa (cC (.int 0)) (aa (cC (.int 1)) aq))) (aa (ak dg (ag 4) (ag 7)) aq))) aq))))) (gT2 9 10) INB))
theorem z_ {s r k : Nat} {m : Int} {L : CT} {d0 d1 d2 y8 y9 y10 y11 : Option D} (hs : s < 20) (hk : k <= s) (hv : dY (BC s) [(r : Int), (k : Int)] = some m) (sm : sml m = true) (hL : L.length <= 800000) : ∃ z8 z9 z10 z11, KB [d0, d1, d2, some (.ref s), some (.int s), some (.ref (s + 1)), some (.int r), some (.int k), y8, y9, y10, y11] (hpD s L) = .ok (.nx [d0, d1, d2, some (.ref s), some (.int s), some (.ref (s + 1)), some (.int r), some (.int k), z8, z9, z10, z11]) (hpD s (st3 s L ([(r : Int), (k : Int)], m))) := by
  have s1 : sml (1 : Int) = true := by decide +kernel
  have s2 : sml (k : Int) = true := g8 (by omega) (by omega)
  have s3 : sml ((s : Int) - k) = true := g8 (by omega) (by omega)
  have l1 := qO L [(r : Int) + 1, (k : Int) + 0] (gC L [(r : Int) + 1, (k : Int) + 0] + m * 1)
  have i1 := p0 (s := s) (L := L) (r := r) (k := k) (m := m) (a := 1) (b := 0) (c := 1) (d0 := d0) (d1 := d1) (d2 := d2) (d3 := some (.ref s)) (d4 := some (.int s)) (y11 := y11) sm s1 (by omega)
  have e1 : (iU L [(r : Int) + 1, (k : Int) + 0] (m * 1)).length <= L.length + 1 := l1
  generalize hL1 : iU L [(r : Int) + 1, (k : Int) + 0] (m * 1) = L1 at *
  have i2 := p0 (s := s) (L := L1) (r := r) (k := k) (m := m) (a := 0) (b := 0) (c := k) (d0 := d0) (d1 := d1) (d2 := d2) (d3 := some (.ref s)) (d4 := some (.int s)) (y11 := some (.tup [.int ((r : Int) + 1), .int ((k : Int) + 0)])) sm s2 (by omega)
  have l2 := qO L1 [(r : Int) + 0, (k : Int) + 0] (gC L1 [(r : Int) + 0, (k : Int) + 0] + m * k)
  have e2 : (iU L1 [(r : Int) + 0, (k : Int) + 0] (m * k)).length <= L1.length + 1 := l2
  generalize hL2 : iU L1 [(r : Int) + 0, (k : Int) + 0] (m * k) = L2 at *
  have i3 := p0 (s := s) (L := L2) (r := r) (k := k) (m := m) (a := 0) (b := 1) (c := (s : Int) - k) (d0 := d0) (d1 := d1) (d2 := d2) (d3 := some (.ref s)) (d4 := some (.int s)) (y11 := some (.tup [.int ((r : Int) + 0), .int ((k : Int) + 0)])) sm s3 (by omega)
  have es : st3 s L ([(r : Int), (k : Int)], m) = iU L2 [(r : Int) + 0, (k : Int) + 1] (m * ((s : Int) - k)) := by
    rw [<- hL2, <- hL1]; rfl
  rw [<- es] at i3
  have gt : mD (.ref s) (.tup [.int (r : Int), .int (k : Int)]) (hpD s L) = .ok (.int m) (hpD s L) := by
    have ky : jJ (.tup [.int (r : Int), .int (k : Int)]) = some (eK [(r : Int), (k : Int)]) := k9 [(r : Int), (k : Int)]
    unfold mD
    rw [ky]
    dsimp only
    rw [xK]
    dsimp only
    rw [iM, hv]
    rfl
  refine ⟨some (.int m), some (.tup [.int 0, .int 1]), some (.int ((s : Int) - k)), some (.tup [.int ((r : Int) + 0), .int ((k : Int) + 1)]), ?_⟩
  generalize hpD s (st3 s L ([(r : Int), (k : Int)], m)) = H3 at *
  generalize hpD s L2 = H2 at *
  generalize hpD s L1 = H1 at *
  generalize hpD s L = H0 at *
  simp only [Int.add_zero] at i1 i2 i3 ⊢
  simp [KB, gt, fL, iX, i1, i2, i3]
theorem pk {s : Nat} {d0 d1 d2 : Option D} (hs : s < 20) : ∀ (M L : CT) (y6 y7 y8 y9 y10 y11 : Option D), (∀ p ∈ M, p ∈ BC s) -> BOk (s + 1) L -> ∃ z6 z7 z8 z9 z10 z11, dW (gT2 6 7) KB (M.map fun p => D.tup (p.1.map D.int)) [d0, d1, d2, some (.ref s), some (.int s), some (.ref (s + 1)), y6, y7, y8, y9, y10, y11] (hpD s L) = .ok (.nx [d0, d1, d2, some (.ref s), some (.int s), some (.ref (s + 1)), z6, z7, z8, z9, z10, z11]) (hpD s (M.foldl (st3 s) L))
  | [], L, y6, y7, y8, y9, y10, y11, _, _ => ⟨y6, y7, y8, y9, y10, y11, rfl⟩
  | p :: M, L, y6, y7, y8, y9, y10, y11, hM, b => by
    have bs := sV s
    have hp := hM p List.mem_cons_self
    obtain ⟨r, k, e, hr, hk⟩ := bs.ks p hp
    have hv := qI bs.nd p hp
    have sm : sml p.2 = true := by
      have := xX (n := 20) (s := s) (r := r) (k := k) (by omega) (by omega) (by omega) (by omega)
      unfold gC at this
      rw [<- e, hv] at this
      exact this
    have ll := b.len
    have l4 : (s + 1 + 1) * (s + 1 + 1) <= 22 * 22 := Nat.mul_le_mul (by omega) (by omega)
    rw [e] at hv
    obtain ⟨z8, z9, z10, z11, q⟩ := z_ (s := s) (r := r) (k := k) (m := p.2) (L := L) (d0 := d0) (d1 := d1) (d2 := d2) (y8 := y8) (y9 := y9) (y10 := y10) (y11 := y11) hs hk hv sm (by omega)
    have pe : p = ([(r : Int), (k : Int)], p.2) := by rw [<- e]
    rw [<- pe] at q
    obtain ⟨u6, u7, u8, u9, u10, u11, o⟩ := pk (d0 := d0) (d1 := d1) (d2 := d2) hs M (st3 s L p) (some (.int r)) (some (.int k)) z8 z9 z10 z11 (fun x hx => hM x (List.mem_cons_of_mem _ hx)) (t_ b ⟨r, k, e, hr, hk⟩)
    refine ⟨u6, u7, u8, u9, u10, u11, ?_⟩
    rw [List.map_cons, fL, e]
    have g : gT2 6 7 (.tup (([(r : Int), (k : Int)] : List Int).map D.int)) [d0, d1, d2, some (.ref s), some (.int s), some (.ref (s + 1)), y6, y7, y8, y9, y10, y11] (hpD s L) = .ok [d0, d1, d2, some (.ref s), some (.int s), some (.ref (s + 1)), some (.int r), some (.int k), y8, y9, y10, y11] (hpD s L) := rfl
    rw [g, bH, q, bH]
    exact o
noncomputable def SZB : MS := (az (aY 5 rC) (az (cR (cK (ah (iz au) (aa (ag 3) aq))) (gT2 6 7) KB) (aY 3 (ag 5))))
noncomputable def HBC (s : Nat) : Hh := (List.range (s + 1)).map fun j => O.dit (encC (BC j))
theorem yB {s : Nat} {d0 d1 d2 y5 y6 y7 y8 y9 y10 y11 : Option D} (hs : s < 20) : ∃ z5 z6 z7 z8 z9 z10 z11, SZB [d0, d1, d2, some (.ref s), some (.int s), y5, y6, y7, y8, y9, y10, y11] (HBC s) = .ok (.nx [d0, d1, d2, some (.ref (s + 1)), some (.int s), z5, z6, z7, z8, z9, z10, z11]) (HBC (s + 1)) := by
  obtain ⟨z6, z7, z8, z9, z10, z11, q⟩ := pk (s := s) (d0 := d0) (d1 := d1) (d2 := d2) hs (BC s) [] y6 y7 y8 y9 y10 y11 (fun p hp => hp) ⟨by simp, fun p hp => by cases hp⟩
  have eq : (BC s).foldl (st3 s) [] = BC (s + 1) := rfl
  rw [eq, yr] at q
  refine ⟨some (.ref (s + 1)), z6, z7, z8, z9, z10, z11, ?_⟩
  have tn : ∀ env : En, rC env (HBC s) = .ok (.ref (s + 1)) (hpD s []) := fun env => by
    have l : (HBC s).length = s + 1 := by simp [HBC]
    show R.ok (D.ref (HBC s).length) (HBC s ++ [.dit []]) = _
    rw [l]; rfl
  have ks : iz au [.ref s] (hpD s []) = .ok (.frl ((BC s).map fun p => D.tup (p.1.map D.int))) (hpD s []) := by
    unfold iz
    dsimp only
    rw [xK]
    dsimp only
    have : ((encC (BC s)).map fun kv => tupK kv.1) = (BC s).map fun p => D.tup (p.1.map D.int) := by
      unfold encC
      rw [List.map_map]
      exact List.map_congr_left fun p _ => vd p.1
    rw [this]; rfl
  change dW (gT2 6 7) KB _ _ (hpD s []) = .ok _ (HBC (s + 1)) at q
  generalize HBC (s + 1) = H2 at *
  generalize hpD s [] = H1 at *
  generalize HBC s = H0 at *
  generalize ((BC s).map fun p => D.tup (p.1.map D.int)) = KS at *
  simp [SZB, tn, ks, q]
theorem w_ {n : Nat} {r k : Int} {h : Hh} (hn : n <= 20) : bI [.int n, .int r, .int k] h = .ok (.int (gC (BC n) [r, k])) h := by
  obtain ⟨s, lp, ei⟩ := fO (σ := Nat × Option D × Option D × Option D × Option D × Option D × Option D × Option D × Option D) (tg := gN 4) (body := SZB) (fun (i : Nat) => D.int i) n (fun s => [some (.int n), some (.int r), some (.int k), some (.ref s.1), s.2.1, s.2.2.1, s.2.2.2.1, s.2.2.2.2.1, s.2.2.2.2.2.1, s.2.2.2.2.2.2.1, s.2.2.2.2.2.2.2.1, s.2.2.2.2.2.2.2.2]) (fun s => HBC s.1) (fun i s => s.1 = i) (fun i s hi hs => by
    obtain ⟨j, y4, y5, y6, y7, y8, y9, y10, y11⟩ := s
    dsimp only at hs
    subst hs
    obtain ⟨z5, z6, z7, z8, z9, z10, z11, q⟩ := yB (s := j) (d0 := some (.int n)) (d1 := some (.int r)) (d2 := some (.int k)) (y5 := y5) (y6 := y6) (y7 := y7) (y8 := y8) (y9 := y9) (y10 := y10) (y11 := y11) (by omega)
    exact ⟨(j + 1, some (.int j), z5, z6, z7, z8, z9, z10, z11), rfl, by simp only [pD, bH, List.set]; exact q⟩) n 0 (0, none, none, none, none, none, none, none, none) (by omega) rfl
  obtain ⟨j, y4, y5, y6, y7, y8, y9, y10, y11⟩ := s
  dsimp only at lp ei
  subst ei
  rw [<- uV] at lp
  have dn : cM (HBC j) j = some (encC (BC j)) := by
    unfold cM HBC
    rw [List.getElem?_map, List.getElem?_range (by omega)]; rfl
  have gt : fW (ag 3) (ah cj (aa (ag 1) (aa (ag 2) aq))) (cC (.int 0)) [some (.int j), some (.int r), some (.int k), some (.ref j), y4, y5, y6, y7, y8, y9, y10, y11] (HBC j) = .ok (.int (gC (BC j) [r, k])) (HBC j) := by
    unfold fW
    show (match cM (HBC j) j with | some _ => _ | none => R.bad) = _
    rw [dn]
    show jN (.ref j) (.tup [.int r, .int k]) (.int 0) (HBC j) = _
    have ky : jJ (.tup [.int r, .int k]) = some (eK [r, k]) := k9 [r, k]
    unfold jN
    rw [ky]
    dsimp only
    rw [dn]
    dsimp only
    rw [iM]
    unfold gC
    cases dY (BC j) [r, k] <;> rfl
  have ex : cu [] (.int (gC (BC j) [r, k])) (HBC j) = .ok (.int (gC (BC j) [r, k])) [] := by
    have := f9 (h := []) (t := HBC j) (d := .int (gC (BC j) [r, k])) Wf.nil rfl
    simpa using this
  have dsp : ∀ env : En, k4 (ah cj (aa (cC (.int 0)) (aa (cC (.int 0)) aq))) (cC (.int 1)) env [] = .ok (.ref 0) (HBC 0) := fun env => rfl
  have z : j <= 1000000 := by omega
  have e2 : bI = gj (fun ds h => ((cJ 12 (az (aY 3 (k4 (ah cj (aa (cC (.int 0)) (aa (cC (.int 0)) aq))) (cC (.int 1)))) (az (cR (dF gG (aa (ag 0) aq)) (gN 4) SZB) (cb (fW (ag 3) (ah cj (aa (ag 1) (aa (ag 2) aq))) (cC (.int 0))))))) ds h).bind (cu h)) := rfl
  rw [e2]
  have lo : bS 0 [.int (j : Int), .int r, .int k] = true := rfl
  generalize HBC 0 = H0 at *
  generalize HBC j = H1 at *
  generalize gC (BC j) [r, k] = V at *
  simp [gj, lo, bW, dsp, z, lp, gt, ex, dO]
noncomputable def lnI (s : Nat) (b r : List Int) : List Int := (List.range 22).map fun (k : Nat) => if k = 0 then 0 else (k : Int) * gI r k + ((s : Int) - k) * gI r (k - 1) + ((s : Int) - 1) * gI b (k - 1)
theorem qw {s : Nat} {b r : List Int} : (lnI s b r).length = 22 := by simp [lnI]
theorem q5 {s k : Nat} {b r : List Int} (hk : k < 22) : gI (lnI s b r) k = if k = 0 then 0 else (k : Int) * gI r k + ((s : Int) - k) * gI r (k - 1) + ((s : Int) - 1) * gI b (k - 1) := by
  rw [gg (by simp [lnI, hk])]; simp [lnI]
noncomputable def LN : Nat -> List Int × List Int
  | 0 => (List.replicate 22 0, 1 :: List.replicate 21 0)
  | s + 1 => ((LN s).2, lnI (s + 1) (LN s).1 (LN s).2)
theorem rE : ∀ s, s <= 20 -> (LN s).1.length = 22 /\ (LN s).2.length = 22 /\ (∀ x, (gI (LN s).1 x).natAbs <= 90 ^ s) /\ (∀ x, (gI (LN s).2 x).natAbs <= 90 ^ s)
  | 0, _ => by
    have g1 : ∀ x, (gI (LN 0).1 x).natAbs <= 90 ^ 0 := fun x => by
      by_cases hx : x < 22
      · have : ∀ x, x < 22 -> (gI (LN 0).1 x).natAbs <= 90 ^ 0 := by decide
        exact this x hx
      · rw [gP (by show 22 <= x; omega)]; exact Nat.zero_le _
    have g2 : ∀ x, (gI (LN 0).2 x).natAbs <= 90 ^ 0 := fun x => by
      by_cases hx : x < 22
      · have : ∀ x, x < 22 -> (gI (LN 0).2 x).natAbs <= 90 ^ 0 := by decide
        exact this x hx
      · rw [gP (by show 22 <= x; omega)]; exact Nat.zero_le _
    exact ⟨rfl, rfl, g1, g2⟩
  | s + 1, hs => by
    obtain ⟨l1, l2, b1, b2⟩ := rE s (by omega)
    refine ⟨l2, qw, fun x => ?_, fun x => ?_⟩
    · have := b2 x
      show (gI (LN s).2 x).natAbs <= _
      rw [Nat.pow_succ]; omega
    · show (gI (lnI (s + 1) (LN s).1 (LN s).2) x).natAbs <= _
      rw [Nat.pow_succ]
      by_cases hk : x < 22
      · rw [q5 hk]
        have m1 : ((x : Int) * gI (LN s).2 x).natAbs <= 30 * 90 ^ s := by rw [Int.natAbs_mul]; exact Nat.mul_le_mul (by omega) (b2 x)
        have m2 : ((((s + 1 : Nat) : Int) - x) * gI (LN s).2 (x - 1)).natAbs <= 30 * 90 ^ s := by rw [Int.natAbs_mul]; exact Nat.mul_le_mul (by omega) (b2 _)
        have m3 : ((((s + 1 : Nat) : Int) - 1) * gI (LN s).1 (x - 1)).natAbs <= 30 * 90 ^ s := by rw [Int.natAbs_mul]; exact Nat.mul_le_mul (by omega) (b1 _)
        generalize (x : Int) * gI (LN s).2 x = u at *
        generalize (((s + 1 : Nat) : Int) - x) * gI (LN s).2 (x - 1) = v at *
        generalize (((s + 1 : Nat) : Int) - 1) * gI (LN s).1 (x - 1) = t at *
        split <;> omega
      · rw [gP (by rw [qw]; omega)]; exact Nat.zero_le _
theorem ya {s : Nat} (hs : s <= 20) : (∀ x, sml (gI (LN s).1 x) = true) /\ (∀ x, sml (gI (LN s).2 x) = true) := by
  obtain ⟨_, _, b1, b2⟩ := rE s hs
  have p : 90 ^ s <= 10 ^ 560 := Nat.le_trans (Nat.pow_le_pow_right (by decide) hs) (by decide +kernel)
  exact ⟨fun x => dE (Nat.le_trans (b1 x) p), fun x => dE (Nat.le_trans (b2 x) p)⟩
theorem xl : ∀ s, 1 <= s -> ∀ k, k <= 20 -> gI (LN s).1 k = gI (NR s).1 k /\ gI (LN s).2 k = gI (NR s).2 k
  | 0, h, _, _ => by omega
  | s + 1, _, k, hk => by
    by_cases c : s = 0
    · subst c
      have : ∀ k, k < 21 -> gI (LN 1).1 k = gI (NR 1).1 k /\ gI (LN 1).2 k = gI (NR 1).2 k := by decide
      exact this k (by omega)
    · have ih := xl s (by omega)
      rw [xY (by omega)]
      refine ⟨(ih k hk).2, ?_⟩
      show gI (lnI (s + 1) (LN s).1 (LN s).2) k = gI (nrI (s + 1) (NR s).1 (NR s).2) k
      rw [q5 (by omega), qW (by omega)]
      by_cases z : k = 0
      · rw [if_pos z, if_pos z]
      · rw [if_neg z, if_neg z, (ih k hk).2, (ih (k - 1) (by omega)).2, (ih (k - 1) (by omega)).1]
noncomputable def RdI (L : List Int) (H : Hh) (d : D) : Prop := ∀ (t : Hh) (i : Int), dIx d (.int i) (H ++ t) = ixK (L.map D.int) i (H ++ t)
theorem RdI.frl {L : List Int} {H : Hh} : RdI L H (.frl (L.map D.int)) := fun t i => by simp
theorem RdI.app {L : List Int} {H T : Hh} {d : D} (r : RdI L H d) : RdI L (H ++ T) d := fun t i => by rw [List.append_assoc]; exact r (T ++ t) i
theorem RdI.new {L : List Int} {H : Hh} : RdI L (H ++ [.lst (L.map D.int)]) (.ref H.length) := fun t i => by
  rw [List.append_assoc]
  exact kZ g_
noncomputable def NLI : MS := (eE dX (ag 5) (ag 6) (ak (bh au) (ak (bh au) (ak (cp au) (ag 6) (ak dIx (ag 3) (ag 6))) (ak (cp au) (ak dg (ag 4) (ag 6)) (ak dIx (ag 3) (ak dg (ag 6) (cC (.int 1)))))) (ak (cp au) (ak dg (ag 4) (cC (.int 1))) (ak dIx (ag 2) (ak dg (ag 6) (cC (.int 1)))))))
theorem yj {s k : Nat} {b r c : List Int} {H : Hh} {d0 d1 : Option D} {db dr : D} (hs : s <= 20) (lb : b.length = 22) (lr : r.length = 22) (lc : c.length = 22) (k1 : 1 <= k) (hk : k < 22) (sb : ∀ x, sml (gI b x) = true) (sr : ∀ x, sml (gI r x) = true) (Rb : RdI b H db) (Rr : RdI r H dr) : NLI [d0, d1, some db, some dr, some (.int s), some (.ref H.length), some (.int k)] (H ++ [.lst (c.map D.int)]) = .ok (.nx [d0, d1, some db, some dr, some (.int s), some (.ref H.length), some (.int k)]) (H ++ [.lst ((c.set k (gI (lnI s b r) k)).map D.int)]) := by
  have i1 := Rr [.lst (c.map D.int)] (k : Int)
  rw [bZ (ns := r) (i := (k : Int)) (j := k) rfl (by omega)] at i1
  have i2 := Rr [.lst (c.map D.int)] ((k : Int) - 1)
  rw [bZ (ns := r) (i := (k : Int) - 1) (j := k - 1) (by omega) (by omega)] at i2
  have i3 := Rb [.lst (c.map D.int)] ((k : Int) - 1)
  rw [bZ (ns := b) (i := (k : Int) - 1) (j := k - 1) (by omega) (by omega)] at i3
  have s1 : sml (k : Int) = true := g8 (by omega) (by omega)
  have s2 : sml ((s : Int) - k) = true := dE (Nat.le_trans (show _ <= 100 by omega) (by decide +kernel))
  have s3 : sml ((s : Int) - 1) = true := dE (Nat.le_trans (show _ <= 100 by omega) (by decide +kernel))
  have st : ∀ v : Int, dX (.ref H.length) (.int (k : Int)) (.int v) (H ++ [.lst (c.map D.int)]) = .ok () (H ++ [.lst ((c.set k v).map D.int)]) := fun v => by
    rw [iZ g_ (show ixN (c.map D.int).length (k : Int) = some k from by rw [List.length_map]; exact qV rfl (by omega)), nJ, List.map_set]
  rw [q5 hk, if_neg (by omega)]
  generalize H ++ [O.lst (c.map D.int)] = HH at *
  simp [NLI, i1, i2, i3, s1, s2, s3, sb, sr, st]
noncomputable def NLB : MS := (az (aY 5 (ak (cp kd) (ah (bU au) (aa (cC (.int 0)) aq)) (cC (.int 22)))) (az (cR (dF h9 (aa (cC (.int 1)) (aa (cC (.int 22)) aq))) (gN 6) NLI) (lJ 2 3 (aa (ag 3) (aa (ag 5) aq)))))
theorem zv {s : Nat} {b r : List Int} {H : Hh} {d0 d1 y5 y6 : Option D} {db dr : D} (hs : s <= 20) (lb : b.length = 22) (lr : r.length = 22) (sb : ∀ x, sml (gI b x) = true) (sr : ∀ x, sml (gI r x) = true) (Rb : RdI b H db) (Rr : RdI r H dr) : ∃ z6, NLB [d0, d1, some db, some dr, some (.int s), y5, y6] H = .ok (.nx [d0, d1, some dr, some (.ref H.length), some (.int s), some (.ref H.length), z6]) (H ++ [.lst ((lnI s b r).map D.int)]) := by
  obtain ⟨q0, lp, ei⟩ := fO (σ := List Int × Option D) (tg := gN 6) (body := NLI) (fun (i : Nat) => D.int (1 + (i : Int))) 21 (fun s0 => [d0, d1, some db, some dr, some (.int s), some (.ref H.length), s0.2]) (fun s0 => H ++ [.lst (s0.1.map D.int)]) (fun i s0 => s0.1.length = 22 /\ ∀ x, x < 22 -> gI s0.1 x = if x <= i then gI (lnI s b r) x else 0) (fun i s0 hi hs0 => by
    obtain ⟨c, y⟩ := s0
    obtain ⟨lc, hv⟩ := hs0
    dsimp only at lc hv ⊢
    have e : (1 + (i : Int)) = ((i + 1 : Nat) : Int) := by omega
    refine ⟨(c.set (i + 1) (gI (lnI s b r) (i + 1)), some (.int (1 + (i : Int)))), ⟨by simp [lc], fun x hx => ?_⟩, ?_⟩
    · dsimp only
      rw [xC (by omega)]
      by_cases c1 : i + 1 = x
      · rw [if_pos c1, if_pos (by omega), c1]
      · rw [if_neg c1, hv x hx]
        by_cases c2 : x <= i
        · rw [if_pos c2, if_pos (by omega)]
        · rw [if_neg c2, if_neg (by omega)]
    · dsimp only
      simp only [pD, bH, List.set]
      rw [e]
      exact yj hs lb lr lc (by omega) (by omega) sb sr Rb Rr) 21 0 (List.replicate 22 0, y6) (by omega) ⟨by simp, fun x hx => by
      have g0 : gI (List.replicate 22 0) x = 0 := by rw [gg (by rw [List.length_replicate]; exact hx), List.getElem_replicate]
      dsimp only
      rw [g0]
      by_cases c : x <= 0
      · have : x = 0 := by omega
        subst this
        rw [if_pos c, q5 (by omega)]; rfl
      · rw [if_neg c]⟩
  obtain ⟨c, y⟩ := q0
  obtain ⟨lc, hv⟩ := ei
  dsimp only at lc hv lp
  have ec : c = lnI s b r := xN (by rw [lc, qw]) fun x hx => by rw [hv x (by omega), if_pos (by omega)]
  subst ec
  have ir : aP 1 21 = (List.range' 0 21).map fun (i : Nat) => D.int (1 + (i : Int)) := by unfold aP; rw [List.range_eq_range']
  rw [<- ir, List.map_replicate] at lp
  refine ⟨y, ?_⟩
  have rp : (List.replicate 22 [D.int 0]).flatten = List.replicate 22 (D.int 0) := rfl
  generalize hR : List.replicate 22 (D.int 0) = R1 at *
  generalize (lnI s b r).map D.int = W at *
  simp [-List.reduceReplicate, NLB, rp, hR, lp]
theorem vR {n k : Nat} {h : Hh} (hn : n <= 20) (hk : k <= 21) : bG [.int n, .int k] h = .ok (.int (gI (LN n).2 k)) h := by
  obtain ⟨q0, lp, ei⟩ := fO (σ := Hh × D × D × Option D × Option D × Option D) (tg := gN 4) (body := NLB) (fun (i : Nat) => D.int (1 + (i : Int))) n (fun s => [some (.int n), some (.int k), some s.2.1, some s.2.2.1, s.2.2.2.1, s.2.2.2.2.1, s.2.2.2.2.2]) (fun s => s.1) (fun i s => RdI (LN i).1 s.1 s.2.1 /\ RdI (LN i).2 s.1 s.2.2.1) (fun i s hi hs => by
    obtain ⟨H, db, dr, y4, y5, y6⟩ := s
    obtain ⟨Rb, Rr⟩ := hs
    dsimp only at Rb Rr ⊢
    obtain ⟨l1, l2, _, _⟩ := rE i (by omega)
    obtain ⟨m1, m2⟩ := ya (s := i) (by omega)
    obtain ⟨z6, q⟩ := zv (s := i + 1) (d0 := some (.int n)) (d1 := some (.int k)) (y5 := y5) (y6 := y6) (by omega) l1 l2 m1 m2 Rb Rr
    rw [show ((i + 1 : Nat) : Int) = 1 + (i : Int) by omega] at q
    refine ⟨(H ++ [.lst ((lnI (i + 1) (LN i).1 (LN i).2).map D.int)], dr, .ref H.length, some (.int (1 + (i : Int))), some (.ref H.length), z6), ⟨Rr.app, RdI.new⟩, ?_⟩
    simp only [pD, bH, List.set]
    exact q) n 0 ([], .frl ((LN 0).1.map D.int), .frl ((LN 0).2.map D.int), none, none, none) (by omega) ⟨RdI.frl, RdI.frl⟩
  obtain ⟨H, db, dr, y4, y5, y6⟩ := q0
  dsimp only at lp ei
  obtain ⟨_, Rr⟩ := ei
  have ix := Rr [] (k : Int)
  rw [List.append_nil, bZ (ns := (LN n).2) (i := (k : Int)) (j := k) rfl (by rw [(rE n hn).2.1]; omega)] at ix
  have ir : aP 1 n = (List.range' 0 n).map fun (i : Nat) => D.int (1 + (i : Int)) := by unfold aP; rw [List.range_eq_range']
  rw [<- ir] at lp
  have e1 : (LN 0).1.map D.int = List.replicate 22 (.int 0) := by show (List.replicate 22 0).map D.int = _; rw [List.map_replicate]
  have e2 : (LN 0).2.map D.int = .int 1 :: List.replicate 21 (.int 0) := by show (1 :: List.replicate 21 0).map D.int = _; rw [List.map_cons, List.map_replicate]
  rw [e1, e2] at lp
  have ex : cu [] (.int (gI (LN n).2 k)) H = .ok (.int (gI (LN n).2 k)) [] := by
    have := f9 (h := []) (t := H) (d := .int (gI (LN n).2 k)) Wf.nil rfl
    simpa using this
  have rp : (List.replicate 22 [D.int 0]).flatten = List.replicate 22 (D.int 0) := rfl
  have rp1 : (List.replicate 21 [D.int 0]).flatten = List.replicate 21 (D.int 0) := rfl
  have l21 : (List.replicate 21 (D.int 0)).length = 21 := by simp
  have z2 : ((n : Int) + 1).natAbs <= 1000000 := by omega
  have z3 : ((n : Int) + 1 - 1).toNat = n := by omega
  have z4 : n <= 1000000 := by omega
  have lo : bS 0 [.int (n : Int), .int (k : Int)] = true := rfl
  have e3 : bG = gj (fun ds h => ((cJ 7 (az (lJ 2 3 (aa (ak (cp au) (ah (bU au) (aa (cC (.int 0)) aq)) (cC (.int 22))) (aa (ak (bh au) (ah (bU au) (aa (cC (.int 1)) aq)) (ak (cp au) (ah (bU au) (aa (cC (.int 0)) aq)) (cC (.int 21)))) aq))) (az (cR (dF h9 (aa (cC (.int 1)) (aa (ak (bh au) (ag 0) (cC (.int 1))) aq))) (gN 4) NLB) (cb (ak dIx (ag 3) (ag 1)))))) ds h).bind (cu h)) := rfl
  rw [e3]
  generalize gI (LN n).2 k = V at *
  generalize hR1 : List.replicate 21 (D.int 0) = R1 at *
  generalize hR2 : List.replicate 22 (D.int 0) = R2 at *
  have r5 : List.replicate 5 (none : Option D) = [none, none, none, none, none] := rfl
  simp [-List.reduceReplicate, r5, gj, lo, bW, rp, rp1, hR1, hR2, l21, z2, z3, z4, lp, ix, ex, dO]
theorem zl {n r k : Nat} (h1 : 1 <= n) (hn : n <= 6) (hr : r < 7) (hk : k < 7) : ((allI n n).map (fA r)).sum = gI (LR n) r /\ ((allI n n).map (fB n r k)).sum = bcI n r k /\ ((allI n n).map (fC n k)).sum = gI (NR n).2 k := by
  have c : ckS n = true := by
    match n, h1, hn with
    | 1, _, _ => exact Ak
    | 2, _, _ => exact An
    | 3, _, _ => exact Ai
    | 4, _, _ => exact AG
    | 5, _, _ => exact AZ
    | 6, _, _ => exact zN
  unfold ckS at c
  rw [nP] at c
  have c := List.all_eq_true.mp (List.all_eq_true.mp c r (List.mem_range.mpr hr)) k (List.mem_range.mpr hk)
  rw [Bool.and_eq_true, Bool.and_eq_true] at c
  obtain ⟨⟨c1, c2⟩, c3⟩ := c
  have c1 := eq_of_beq c1
  have c2 := eq_of_beq c2
  have c3 := eq_of_beq c3
  rw [List.map_map] at c1 c2 c3
  have d : ∀ o, lC n o <= 6 := fun o => by
    have := List.length_filter_le (fun (i : Nat) => decide (gI o i < (i : Int))) (List.range n)
    rw [List.length_range] at this
    unfold lC; omega
  refine ⟨?_, ?_, ?_⟩
  · rw [<- c1]
    congr 1
    refine List.map_congr_left fun o _ => ?_
    have := d o
    show fA r o = if cod n o / 100 = (r : Int) then 1 else 0
    unfold fA cod
    by_cases z : rmI o = r
    · rw [if_pos z, if_pos (by split <;> omega)]
    · rw [if_neg z, if_neg (by split <;> omega)]
  · rw [<- c2]
    congr 1
    refine List.map_congr_left fun o _ => ?_
    have := d o
    show fB n r k o = if cod n o / 10 = 10 * (r : Int) + k then 1 else 0
    unfold fB cod
    by_cases z : rmI o = r /\ lC n o = k
    · rw [if_pos z, if_pos (by split <;> omega)]
    · rw [if_neg z, if_neg (by split <;> omega)]
  · rw [<- c3]
    congr 1
    refine List.map_congr_left fun o _ => ?_
    have := d o
    show fC n k o = if cod n o % 100 = 10 * (k : Int) + 1 then 1 else 0
    unfold fC cod
    by_cases z : sC n o = true
    · simp only [z, if_true, and_true]
      by_cases y : lC n o = k
      · rw [if_pos y, if_pos (by omega)]
      · rw [if_neg y, if_neg (by omega)]
    · have z' : sC n o = false := by
        have z0 := z
        rw [Bool.not_eq_true] at z0
        exact z0
      simp only [z', Bool.false_eq_true, if_false, and_false]
      rw [if_neg (by omega)]
noncomputable def SRB : MS := (az (aY 7 (ah iA (aa (cL au (dF gG (aa (ag 0) aq)) [6] (aZ asB (ak dLt (ak dIx (ag 1) (ag 0)) (ag 0))) (ag 0)) aq))) (az (aY 8 (ah bA (aa (ag 6) aq))) (az (aY 3 (ak (bh au) (ag 3) (ah kE (aa (ak dEq (ag 8) (ag 1)) aq)))) (az (aY 4 (ak (bh au) (ag 4) (ah kE (aa (jV (ak dEq (ag 8) (ag 1)) (ak dEq (ag 7) (ag 2))) aq)))) (aY 5 (ak (bh au) (ag 5) (ah kE (aa (jV (ak dEq (ag 7) (ag 2)) (ak dEq (cL au (dF gG (aa (ag 0) aq)) [6] (aZ asB (ak dEq (ak dIx (ag 1) (ag 0)) (ag 0))) (ag 0)) (ah (bU au) aq))) aq))))))))
theorem AQ {xs : List D} {h : Hh} : dEq (.frl xs) (.frl []) h = .ok (.bl xs.isEmpty) h := by cases xs <;> rfl
theorem yA {n r k : Nat} {o : List Int} {a b c : Int} {h : Hh} {y7 y8 y9 : Option D} (hn : n <= 20) (hl : o.length = n) (ho : ∀ x ∈ o, 0 <= x /\ x < n) : ∃ z7 z8, SRB [some (.int n), some (.int r), some (.int k), some (.int a), some (.int b), some (.int c), some (tpI o), y7, y8, y9] h = .ok (.nx [some (.int n), some (.int r), some (.int k), some (.int (a + fA r o)), some (.int (b + fB n r k o)), some (.int (c + fC n k o)), some (tpI o), z7, z8, y9]) h := by
  have rm := vH (h := h) hl hn ho
  have q1 : cS (aZ asB (ak dLt (ak dIx (ag 1) (ag 0)) (ag 0))) (ag 0) (fun x => [some x, some (.tup (o.map D.int))]) (aP 0 n) h = .ok (((List.range n).filter fun (i : Nat) => decide (gI o i < (i : Int))).map fun (i : Nat) => D.int i) h :=
    lu (fun (i : Nat) => decide (gI o i < (i : Int))) (fun (i : Nat) => D.int i) (fun i hi => by
      have ix := bZ (h := h) (ns := o) (i := (i : Int)) (j := i) rfl (by omega)
      exact ⟨by simp [ix], fun _ => by simp⟩)
  have q2 : cS (aZ asB (ak dEq (ak dIx (ag 1) (ag 0)) (ag 0))) (ag 0) (fun x => [some x, some (.tup (o.map D.int))]) (aP 0 n) h = .ok (((List.range n).filter fun (i : Nat) => gI o i == (i : Int)).map fun (i : Nat) => D.int i) h :=
    lu (fun (i : Nat) => gI o i == (i : Int)) (fun (i : Nat) => D.int i) (fun i hi => by
      have ix := bZ (h := h) (ns := o) (i := (i : Int)) (j := i) rfl (by omega)
      exact ⟨by simp [ix], fun _ => by simp⟩)
  have l1 : (((List.range n).filter fun (i : Nat) => decide (gI o i < (i : Int))).map fun (i : Nat) => D.int i).length = lC n o := by rw [List.length_map]; rfl
  have l2 : (((List.range n).filter fun (i : Nat) => gI o i == (i : Int)).map fun (i : Nat) => D.int i).isEmpty = sC n o := by rw [List.isEmpty_map]; rfl
  refine ⟨some (.int (lC n o)), some (.int (rmI o)), ?_⟩
  have z : n <= 1000000 := by omega
  unfold tpI fA fB fC
  generalize (((List.range n).filter fun (i : Nat) => decide (gI o i < (i : Int))).map fun (i : Nat) => D.int i) = W1 at *
  generalize (((List.range n).filter fun (i : Nat) => gI o i == (i : Int)).map fun (i : Nat) => D.int i) = W2 at *
  generalize o.map D.int = OD at *
  generalize rmI o = RM at *
  generalize lC n o = DN at *
  generalize sC n o = OB at *
  have e1 : ((RM : Int) == (r : Int)) = decide (RM = r) := by rw [Bool.eq_iff_iff]; simp; omega
  have e2 : ((DN : Int) == (k : Int)) = decide (DN = k) := by rw [Bool.eq_iff_iff]; simp; omega
  by_cases c1 : RM = r <;> by_cases c2 : DN = k <;> cases OB <;> simp [SRB, z, q1, q2, l1, l2, rm, AQ, e1, e2, c1, c2]
theorem md {n r k : Nat} {h : Hh} {y9 : Option D} (hn : n <= 20) : ∀ (M : List (List Int)) (a b c : Int) (y6 y7 y8 : Option D), (∀ o ∈ M, o.length = n /\ ∀ x ∈ o, 0 <= x /\ x < n) -> ∃ z6 z7 z8, dW (gN 6) SRB (M.map tpI) [some (.int n), some (.int r), some (.int k), some (.int a), some (.int b), some (.int c), y6, y7, y8, y9] h = .ok (.nx [some (.int n), some (.int r), some (.int k), some (.int (a + (M.map (fA r)).sum)), some (.int (b + (M.map (fB n r k)).sum)), some (.int (c + (M.map (fC n k)).sum)), z6, z7, z8, y9]) h
  | [], a, b, c, y6, y7, y8, _ => ⟨y6, y7, y8, by simp [iX]⟩
  | o :: M, a, b, c, y6, y7, y8, hM => by
    obtain ⟨hl, ho⟩ := hM o List.mem_cons_self
    obtain ⟨z7, z8, q⟩ := yA (r := r) (k := k) (a := a) (b := b) (c := c) (h := h) (y7 := y7) (y8 := y8) (y9 := y9) hn hl ho
    obtain ⟨u6, u7, u8, p⟩ := md (r := r) (k := k) (h := h) (y9 := y9) hn M (a + fA r o) (b + fB n r k o) (c + fC n k o) (some (tpI o)) z7 z8 (fun x hx => hM x (List.mem_cons_of_mem _ hx))
    refine ⟨u6, u7, u8, ?_⟩
    rw [List.map_cons, fL, List.map_cons, List.map_cons, List.map_cons, List.sum_cons, List.sum_cons, List.sum_cons, <- Int.add_assoc, <- Int.add_assoc, <- Int.add_assoc]
    simp only [pD, bH, List.set, q, AA]
    exact p
theorem rA {n r k : Nat} {h : Hh} (h1 : 1 <= n) (hn : n <= 6) (hr : r < 7) (hk : k < 7) : aV [.int n, .int r, .int k] h = .ok (.bl true) h := by
  obtain ⟨c1, c2, c3⟩ := zl h1 hn hr hk
  obtain ⟨z6, z7, z8, lp⟩ := md (n := n) (r := r) (k := k) (h := h) (y9 := none) (by omega) (allI n n) 0 0 0 none none none (fun o ho => qv n n o ho)
  rw [c1, c2, c3, Int.zero_add, Int.zero_add, Int.zero_add] at lp
  have al := zO (n := n) h1 (by omega) h
  have rc := zX (n := n) (r := r) (h := h) h1 (by omega) (by omega)
  have bc := oI (n := n) (r := r) (k := k) (h := h) h1 (by omega) (by omega) (by omega)
  have no := t7 (n := n) (k := k) (h := h) h1 (by omega) (by omega)
  have rp := xg (h := h) (ns := [gI (LR n) r, bcI n r k, gI (NR n).2 k]) (by
    intro x hx
    simp only [List.mem_cons, List.not_mem_nil, or_false] at hx
    rcases hx with rfl | rfl | rfl
    · exact qc (by omega)
    · exact u_ (by omega)
    · exact uE h1 (by omega)) (by simp)
  simp only [List.map_cons, List.map_nil] at rp
  have e : aV = cJ 10 (az (tu 3 4 5 (ah cj (aa (cC (.int 0)) (aa (cC (.int 0)) (aa (cC (.int 0)) aq)))))
    (az (cR (cK (ah dG (aa (ag 0) aq))) (gN 6) SRB)
    (az (aY 9 (ah (bU au) (aa (ah aW (aa (ag 0) (aa (ag 1) aq))) (aa (ah bt (aa (ag 0) (aa (ag 1) (aa (ag 2) aq)))) (aa (ah bJ (aa (ag 0) (aa (ag 2) aq))) aq)))))
    (cb (ak dEq (ah de (aa (ag 9) aq)) (ah de (aa (ah (bU au) (aa (ag 3) (aa (ag 4) (aa (ag 5) aq)))) aq))))))) := rfl
  rw [e]
  generalize (allI n n).map tpI = AL at *
  generalize gI (LR n) r = V1 at *
  generalize bcI n r k = V2 at *
  generalize gI (NR n).2 k = V3 at *
  generalize shL [V1, V2, V3] = SS at *
  have un : ∀ (env : En), tu 3 4 5 (ah cj (aa (cC (.int 0)) (aa (cC (.int 0)) (aa (cC (.int 0)) aq)))) env h = .ok (.nx (((env.set 3 (some (.int 0))).set 4 (some (.int 0))).set 5 (some (.int 0)))) h := fun env => rfl
  simp [bW, un, al, lp, rc, bc, no, rp]
noncomputable def B0 : MS := (az (aY 8 (ah bI (aa (ag 3) (aa (ag 6) (aa (ag 7) aq))))) (jv (jd (aZ asB (ak dGe (ag 6) (cC (.int 0)))) (aZ asB (ak dNe (ah de (aa (ah bt (aa (ag 3) (aa (ag 6) (aa (ag 7) aq)))) aq)) (ah de (aa (ag 8) aq))))) (cb (cC (.bl false))) fK))
noncomputable def B1 : MS := (az (aY 2 (ah cx (aa (ag 1) aq))) (az (rD 3 4 5 (aa (ak (bh au) (cC (.int 1)) (ah ax (aa (ag 2) (aa (cC (.int 5)) aq)))) (aa (ah ax (aa (ag 2) (aa (cC (.int 7)) aq))) (aa (ah ax (aa (ag 2) (aa (cC (.int 7)) aq))) aq)))) (az (jv (vY (kR (aZ oz (ah aV (aa (ag 3) (aa (ag 4) (aa (ag 5) aq)))))) (kR (aZ oz (ah aV (aa (cC (.int 6)) (aa (ag 4) (aa (ag 5) aq))))))) (cb (cC (.bl false))) fK) (az (aY 3 (ak (bh au) (cC (.int 1)) (ah ax (aa (ag 2) (aa (cC (.int 20)) aq))))) (az (aY 5 (ak dIx (ah (bU au) (aa (ah ax (aa (ag 2) (aa (ag 3) aq))) (aa (ah ax (aa (ag 2) (aa (cC (.int 21)) aq))) aq))) (ah ax (aa (ag 2) (aa (cC (.int 2)) aq))))) (az (aY 4 (ak dIx (ah (bU au) (aa (ak (bh au) (cC (.int 1)) (ah ax (aa (ag 2) (aa (ag 3) aq)))) (aa (ah ax (aa (ag 2) (aa (cC (.int 21)) aq))) aq))) (ah ax (aa (ag 2) (aa (cC (.int 2)) aq))))) (az (jv (aZ asB (ak dNe (ah de (aa (ah aW (aa (ag 3) (aa (ag 4) aq))) aq)) (ah de (aa (ah bu (aa (ag 3) (aa (ag 4) aq))) aq)))) (cb (cC (.bl false))) fK) (az (jv (aZ asB (ak dNe (ah de (aa (ah bJ (aa (ag 3) (aa (ag 5) aq))) aq)) (ah de (aa (ah bG (aa (ag 3) (aa (ag 5) aq))) aq)))) (cb (cC (.bl false))) fK) (cR (cK (ah (bU au) (aa (ah cj (aa (ag 4) (aa (ag 5) aq))) (aa (ah cj (aa (cC (.int 1)) (aa (ag 5) aq))) (aa (ah cj (aa (ag 4) (aa (cC (.int 0)) aq))) (aa (ah cj (aa (ak dg (ag 3) (ag 5)) (aa (ag 5) aq))) aq)))))) (gT2 6 7) B0)))))))))
theorem tq : kQ = fun ds h => ((cJ 9 (az (cR (cK (ak (bh au) (ah (bU au) (aa (ah bR (aa (ag 0) (aa (cC (.int 0)) aq))) aq)) (mQ au (ag 0) (mB (cC (.int 1))) (mB (cC (.int 4)))))) (gN 1) B1) (cb (cC (.bl true))))) ds h).bind (cu h) := rfl
noncomputable def uy : Prop := ∀ (ns : List Int) (c : Int) (y2 y3 y4 y5 y6 y7 y8 : Option D) (h : Hh), Wf h -> Ok (B1 [some (.scr (ns.map D.int)), some (.int c), y2, y3, y4, y5, y6, y7, y8] h) fun fl h2 => ∃ z2 z3 z4 z5 z6 z7 z8, fl = .nx [some (.scr (ns.map D.int)), some (.int c), z2, z3, z4, z5, z6, z7, z8] /\ Wf h2
theorem yO (step : uy) (ns : List Int) (hl : ns.length <= 63) : ∃ h, kQ [.scr (ns.map D.int)] [] = .ok (.bl true) h := by
  have key : Ok (dW (gN 1) B1 (((ns.headD 0) :: pf ns (some 1) (some 4)).map D.int) [some (.scr (ns.map D.int)), none, none, none, none, none, none, none, none] []) fun fl h2 => (∃ e, fl = .nx e) /\ Wf h2 := by
    refine ni D.int (fun e h => (∃ y1 y2 y3 y4 y5 y6 y7 y8, e = [some (.scr (ns.map D.int)), y1, y2, y3, y4, y5, y6, y7, y8]) /\ Wf h) _ _ _ ⟨⟨_, _, _, _, _, _, _, _, rfl⟩, Wf.nil⟩ (fun x e h _ ⟨⟨y1, y2, y3, y4, y5, y6, y7, y8, e1⟩, w⟩ => ?_) (fun e h ⟨_, w⟩ => ⟨⟨_, rfl⟩, w⟩)
    subst e1
    simp only [pD, bH, List.set]
    refine (step ns x y2 y3 y4 y5 y6 y7 y8 h w).mono fun fl h2 ⟨z2, z3, z4, z5, z6, z7, z8, e2, w2⟩ => ?_
    subst e2
    exact ⟨⟨_, _, _, _, _, _, _, _, rfl⟩, w2⟩
  obtain ⟨fl, h2, e, ⟨e', rfl⟩, w⟩ := key
  have cl := xa ns (some 1) (some 4)
  have c1 : 1 + (pf ns (some 1) (some 4)).length <= 1000000 := by omega
  have ex : cu [] (.bl true) h2 = .ok (.bl true) [] := by
    have := f9 (h := []) (t := h2) (d := .bl true) Wf.nil rfl
    simpa using this
  refine ⟨[], ?_⟩
  have e2 : dW (gN 1) B1 (D.int (ns.headD 0) :: (pf ns (some 1) (some 4)).map D.int) [some (.scr (ns.map D.int)), none, none, none, none, none, none, none, none] [] = .ok (.nx e') h2 := e
  rw [tq]
  simp [bW, sv, c1, e2, ex, -List.headD_eq_head?_getD]
theorem q_ {n k : Nat} {one : Int} {d0 d1 d2 d4 d5 y8 : Option D} {h : Hh} (h1 : 1 <= n) (hn : n <= 20) (ho : one <= 20) (hk : k <= 20) : ∃ z8, B0 [d0, d1, d2, some (.int n), d4, d5, some (.int one), some (.int k), y8] h = .ok (.nx [d0, d1, d2, some (.int n), d4, d5, some (.int one), some (.int k), z8]) h := by
  have lb := w_ (n := n) (r := one) (k := (k : Int)) (h := h) hn
  by_cases c : 0 <= one
  · obtain ⟨t, rfl⟩ : ∃ t : Nat, one = (t : Int) := ⟨one.toNat, by omega⟩
    have bc := oI (n := n) (r := t) (k := k) (h := h) h1 hn (by omega) hk
    rw [Au] at lb
    have sm := u_ (n := n) (r := t) (k := k) hn
    generalize bcI n t k = V at *
    refine ⟨some (.int V), ?_⟩
    simp [B0, lb, bc, sm]
  · refine ⟨some (.int (gC (BC n) [one, (k : Int)])), ?_⟩
    simp [B0, lb, c]
theorem xy {u : Nat} {a b : Int} (hu : u < 2) : ∃ v : Int, (v = a \/ v = b) /\ ∀ H : Hh, ixK [.int a, .int b] (u : Int) H = .ok (.int v) H := by
  match u, hu with
  | 0, _ => exact ⟨a, .inl rfl, fun H => f_ (j := 0) rfl rfl⟩
  | 1, _ => exact ⟨b, .inr rfl, fun H => f_ (j := 1) rfl rfl⟩
theorem wX : uy := by
  intro ns c y2 y3 y4 y5 y6 y7 y8 h w
  obtain ⟨a1, e1, l1⟩ := iu (mw c) 5 (by decide)
  obtain ⟨r1, e2, l2⟩ := iu (cB (mw c) 5) 7 (by decide)
  obtain ⟨k1, e3, l3⟩ := iu (cB (cB (mw c) 5) 7) 7 (by decide)
  generalize hP3 : cB (cB (cB (mw c) 5) 7) 7 = P3 at *
  obtain ⟨m, hm⟩ : ∃ m : Nat, 1 + (a1 : Int) = m := ⟨1 + a1, by omega⟩
  obtain ⟨a4, e4, l4⟩ := iu P3 20 (by decide)
  obtain ⟨n, hn⟩ : ∃ n : Nat, 1 + (a4 : Int) = n := ⟨1 + a4, by omega⟩
  have n1 : 1 <= n := by omega
  have n2 : n <= 20 := by omega
  generalize hP4 : cB P3 20 = P4 at *
  obtain ⟨a5, e5, l5⟩ := iu P4 n (by omega)
  obtain ⟨a6, e6, l6⟩ := iu (cB P4 n) 21 (by decide)
  obtain ⟨a7, e7, l7⟩ := iu (cB (cB P4 n) 21) 2 (by decide)
  generalize hP7 : cB (cB (cB P4 n) 21) 2 = P7 at *
  obtain ⟨a8, e8, l8⟩ := iu P7 n (by omega)
  obtain ⟨a9, e9, l9⟩ := iu (cB P7 n) 21 (by decide)
  obtain ⟨a10, e10, l10⟩ := iu (cB (cB P7 n) 21) 2 (by decide)
  generalize hP10 : cB (cB (cB P7 n) 21) 2 = P10 at *
  obtain ⟨kv, kc, kx⟩ := xy (u := a7) (a := (a5 : Int)) (b := (a6 : Int)) (by omega)
  obtain ⟨rv, rc, rx⟩ := xy (u := a10) (a := 1 + (a8 : Int)) (b := (a9 : Int)) (by omega)
  obtain ⟨k, rfl⟩ : ∃ k : Nat, kv = (k : Int) := ⟨kv.toNat, by omega⟩
  obtain ⟨r, rfl⟩ : ∃ r : Nat, rv = (r : Int) := ⟨rv.toNat, by omega⟩
  have hk : k <= 20 := by omega
  have hr : r <= 20 := by omega
  have wf := zH w P10
  have s1 := rA (n := m) (r := r1) (k := k1) (h := h ++ [.lst (fq P3)]) (by omega) (by omega) (by omega) (by omega)
  have s2 := rA (n := 6) (r := r1) (k := k1) (h := h ++ [.lst (fq P3)]) (by omega) (by omega) (by omega) (by omega)
  rw [show ((6 : Nat) : Int) = 6 from rfl] at s2
  have v1 := zX (n := n) (r := r) (h := h ++ [.lst (fq P10)]) n1 n2 hr
  have v2 := sE (n := n) (r := r) (h := h ++ [.lst (fq P10)]) n2 (by omega)
  have v3 := t7 (n := n) (k := k) (h := h ++ [.lst (fq P10)]) n1 n2 hk
  have v4 := vR (n := n) (k := k) (h := h ++ [.lst (fq P10)]) n2 (by omega)
  rw [(xl n n1 k hk).2] at v4
  have m1 := qc (s := n) (k := r) n2
  have m2 := uE (n := n) (k := k) n1 n2
  obtain ⟨u1, b1⟩ := q_ (n := n) (k := k) (one := (r : Int)) (d0 := some (.scr (ns.map D.int))) (d1 := some (.int c)) (d2 := some (.ref h.length)) (d4 := some (.int r)) (d5 := some (.int k)) (y8 := y8) (h := h ++ [.lst (fq P10)]) n1 n2 (by omega) hk
  obtain ⟨u2, b2⟩ := q_ (n := n) (k := k) (one := 1) (d0 := some (.scr (ns.map D.int))) (d1 := some (.int c)) (d2 := some (.ref h.length)) (d4 := some (.int r)) (d5 := some (.int k)) (y8 := u1) (h := h ++ [.lst (fq P10)]) n1 n2 (by omega) hk
  obtain ⟨u3, b3⟩ := q_ (n := n) (k := 0) (one := (r : Int)) (d0 := some (.scr (ns.map D.int))) (d1 := some (.int c)) (d2 := some (.ref h.length)) (d4 := some (.int r)) (d5 := some (.int k)) (y8 := u2) (h := h ++ [.lst (fq P10)]) n1 n2 (by omega) (by omega)
  obtain ⟨u4, b4⟩ := q_ (n := n) (k := k) (one := (n : Int) - k) (d0 := some (.scr (ns.map D.int))) (d1 := some (.int c)) (d2 := some (.ref h.length)) (d4 := some (.int r)) (d5 := some (.int k)) (y8 := u3) (h := h ++ [.lst (fq P10)]) n1 n2 (by omega) hk
  rw [show ((0 : Nat) : Int) = 0 from rfl] at b3
  have D5 := fun (p : Pen) => g7 (p := p) (m := 5) (h := h) (t := []) (by decide)
  have D7 := fun (p : Pen) => g7 (p := p) (m := 7) (h := h) (t := []) (by decide)
  have D20 := fun (p : Pen) => g7 (p := p) (m := 20) (h := h) (t := []) (by decide)
  have D21 := fun (p : Pen) => g7 (p := p) (m := 21) (h := h) (t := []) (by decide)
  have D2 := fun (p : Pen) => g7 (p := p) (m := 2) (h := h) (t := []) (by decide)
  have dn : 0 < (n : Int) /\ (n : Int) <= 10 ^ 20 := by omega
  have Dn := fun (p : Pen) => g7 (p := p) (m := (n : Int)) (h := h) (t := []) dn
  have lp : dW (gT2 6 7) B0 [.tup [.int (r : Int), .int (k : Int)], .tup [.int 1, .int (k : Int)], .tup [.int (r : Int), .int 0], .tup [.int ((n : Int) - k), .int (k : Int)]] [some (.scr (ns.map D.int)), some (.int c), some (.ref h.length), some (.int n), some (.int r), some (.int k), y6, y7, y8] (h ++ [.lst (fq P10)]) = .ok (.nx [some (.scr (ns.map D.int)), some (.int c), some (.ref h.length), some (.int n), some (.int r), some (.int k), some (.int ((n : Int) - k)), some (.int k), u4]) (h ++ [.lst (fq P10)]) := by
    simp [fL, iX, b1, b2, b3, b4]
  refine ⟨.nx [some (.scr (ns.map D.int)), some (.int c), some (.ref h.length), some (.int n), some (.int r), some (.int k), some (.int ((n : Int) - k)), some (.int k), u4], h ++ [.lst (fq P10)], ?_, _, _, _, _, _, _, _, rfl, wf⟩
  generalize gI (LR n) r = V1 at *
  generalize gI (NR n).2 k = V2 at *
  simp [B1, D5, D7, D20, D21, D2, Dn, e1, e2, e3, hm, hP3, s1, s2, e4, hn, hP4, e5, e6, e7, hP7, kx, e8, e9, e10, hP10, rx, v1, v2, m1, v3, v4, m2, lp]
theorem zw (ns : List Int) (hl : ns.length <= 63) : ∃ h, kQ [.scr (ns.map D.int)] [] = .ok (.bl true) h := yO wX ns hl
end FC
open PySem PySem.W PyProof.Rows
local macro_rules | `(tactic| o_head $H) => `(tactic| (refine holds_open (q := FC.Q) (loose := []) (Xt := (fun s => xlAt FC.Q [] s && recOk (RowW.records (OpenRow.toRowW (OpenLaw.row PySem.Challenge.rw_fallcounts_k63_rounds_and_drops_counted))) s)) (XP := XL FC.Q []) (Yf := Hook.obs $H) (Ya := Hook.val $H) (YP := Hook.says $H) (N := 2376) (L2.FE.rK (by decide) (by kernel_rfl) (fun _ => by kernel_rfl) FC.AE FC.zY (fun w os => by kernel_rfl)) (Hook.of $H) (Hook.keeps $H) (fun s e => xl_of s (Bool.and_eq_true_iff.mp e).1) XL.keeps (by rfl) (by rfl) (by rfl) (fun s e => recFacts_of (Bool.and_eq_true_iff.mp e).2) (by rfl) (by first | assumption | decide +kernel) (by decide +kernel) ⟨rfl, rfl, rfl, rfl, rfl, by decide +kernel⟩ ?hw ?hc))
set_option maxRecDepth 100000 in
set_option maxHeartbeats 0 in
theorem PySem.Challenge.cw_fallcounts_k63_rounds_and_drops_counted_holds : PySem.Challenge.rw_fallcounts_k63_rounds_and_drops_counted.Holds := by
  w_on; o_law; k_head; w_witness2
  k_fill
  refine FC.walk (l := PySem.Challenge.rw_fallcounts_k63_rounds_and_drops_counted) rfl rfl (fun w h Y => by first | exact PySem.W.kIn_of Y | exact PySem.W.km_in_of Y) FC.zw ?F
  case F =>
    intro w mg fa h KX G hmg
    have T : FC.Text (L2.KOf KX) := by
      dsimp only [L2.KOf]
      refine' ⟨?eQ, ?fw, ?gT, ?gS, ?iJ, ?cY, ?iH, ?gy, ?dZ, ?gw, ?gJ, ?eL, ?d8, ?eF, ?fU, ?iF, ?fX, ?cW, ?cQ, ?dj, ?du, ?uZ, ?pX, ?t5, ?fR, ?uj, ?qk, ?tI, ?ny, ?qz, ?uc, ?cD⟩
      (case eQ => refine' L2.FE.bT ?a ?l ?c ?k; (case a => k_is); (case l => k_is); (case c => k_is); (case k => k_is))
      (case fw => refine' L2.FE.bT ?a ?l ?c ?k; (case a => k_is); (case l => k_is); (case c => k_is); (case k => k_is))
      (case gT => refine' L2.FE.bT ?a ?l ?c ?k; (case a => k_is); (case l => k_is); (case c => k_is); (case k => k_is))
      (case gS => refine' L2.FE.bT ?a ?l ?c ?k; (case a => k_is); (case l => k_is); (case c => k_is); (case k => k_is))
      (case iJ => refine' L2.FE.bT ?a ?l ?c ?k; (case a => k_is); (case l => k_is); (case c => k_is); (case k => k_is))
      (case cY => refine' L2.FE.bT ?a ?l ?c ?k; (case a => k_is); (case l => k_is); (case c => k_is); (case k => k_is))
      (case iH => refine' L2.FE.bT ?a ?l ?c ?k; (case a => k_is); (case l => k_is); (case c => k_is); (case k => k_is))
      (case gy => refine' L2.FE.bT ?a ?l ?c ?k; (case a => k_is); (case l => k_is); (case c => k_is); (case k => k_is))
      (case dZ => refine' L2.FE.bT ?a ?l ?c ?k; (case a => k_is); (case l => k_is); (case c => k_is); (case k => k_is))
      (case gw => refine' L2.FE.bT ?a ?l ?c ?k; (case a => k_is); (case l => k_is); (case c => k_is); (case k => k_is))
      (case gJ => refine' L2.FE.bT ?a ?l ?c ?k; (case a => k_is); (case l => k_is); (case c => k_is); (case k => k_is))
      (case eL => refine' L2.FE.bT ?a ?l ?c ?k; (case a => k_is); (case l => k_is); (case c => k_is); (case k => k_is))
      (case d8 => refine' L2.FE.bT ?a ?l ?c ?k; (case a => k_is); (case l => k_is); (case c => k_is); (case k => k_is))
      (case eF => refine' L2.FE.bT ?a ?l ?c ?k; (case a => k_is); (case l => k_is); (case c => k_is); (case k => k_is))
      (case fU => refine' L2.FE.bT ?a ?l ?c ?k; (case a => k_is); (case l => k_is); (case c => k_is); (case k => k_is))
      (case iF => refine' L2.FE.bT ?a ?l ?c ?k; (case a => k_is); (case l => k_is); (case c => k_is); (case k => k_is))
      (case fX => refine' L2.FE.bT ?a ?l ?c ?k; (case a => k_is); (case l => k_is); (case c => k_is); (case k => k_is))
      (case cW => refine' L2.FE.bT ?a ?l ?c ?k; (case a => k_is); (case l => k_is); (case c => k_is); (case k => k_is))
      (case cQ => refine' L2.FE.bT ?a ?l ?c ?k; (case a => k_is); (case l => k_is); (case c => k_is); (case k => k_is))
      (case dj => refine' L2.FE.bT ?a ?l ?c ?k; (case a => k_is); (case l => k_is); (case c => k_is); (case k => k_is))
      (case du => refine' L2.FE.bT ?a ?l ?c ?k; (case a => k_is); (case l => k_is); (case c => k_is); (case k => k_is))
      (case uZ => refine' L2.FE.bT ?a ?l ?c ?k; (case a => k_is); (case l => k_is); (case c => k_is); (case k => k_is))
      (case pX => k_is)
      (case t5 => k_is)
      (case fR => k_is)
      (case uj => k_is)
      (case qk => k_is)
      (case tI => k_is)
      (case ny => k_is)
      (case qz => k_is)
      (case uc => k_is)
      (case cD => exact ⟨_, rfl⟩)
    exact FC.all_mk KX G hmg T
