import PyProof.Rows.All
import Wide.All
import OpenK.AllK
import Wide.FinOn
import Lean
import KE.KNestM
import PyProof.EqAt
import PyProof.EqKinds
import PyProof.TupleCall
import PyProof.EnumMake
import PyProof.Draws
import KE.KDictList
import KE.KTryMore
import KE.KEqDict
import PyProof.ExcInit
import PyProof.InstStoreFacts
import KE.KSortTup
import PySem.Challenge.RW_fallcounts_k65_whole_rounds
set_option Elab.async false
set_option linter.all false
set_option maxRecDepth 100000
set_option maxHeartbeats 8000000
namespace L2.FE
open PySem PySem.W PySem.Calls
noncomputable def Dr : List Obj -> BT -> Nat -> Option BT
  | [], t, _ => some t
  | o :: r, t, n => match ((t.ins n o).get n).isSome with
    | true => Dr r (t.ins n o) (n + 1)
    | false => none
theorem uG {life : Life} : ∀ {r : List Obj} {t T : BT} {n : Nat} {a : Array Obj}, Dr r t n = some T -> absHeap t n life = ⟨a, life⟩ -> absHeap T (n + r.length) life = ⟨a ++ r.toArray, life⟩
  | [], t, T, n, a, h, e => by cases h; simpa using e
  | o :: r, t, T, n, a, h, e => by
    unfold Dr at h
    cases g : ((t.ins n o).get n).isSome with
    | false => rw [g] at h; cases h
    | true =>
      rw [g] at h
      have x : absHeap (t.ins n o) (n + 1) life = ⟨a.push o, life⟩ := by rw [absHeap_ins g, e]; rfl
      have := uG h x
      rw [List.length_cons, show n + (r.length + 1) = n + 1 + r.length by omega, this]
      simp
noncomputable def wL (p : Program) (w : World) (n₀ : Nat) (ann : Option Value) : Nat -> SharedT -> Thread -> Option SharedT
  | 0, _, _ => none
  | n + 1, s, t => match through t with
    | true => some s
    | false => match PySem.W.Fast.tw6613529449190102663 n₀ ann t with
      | false => none
      | true => match PySem.W.Fast.tw10156331382660048174 (PySem.W.Fast.tw11892475500146522536 PySem.W.Fast.tw14364793385576792824) p w s t with
        | some (s', t') => wL p w n₀ ann n s' t'
        | none => none
theorem uK {p : Program} {w : World} {n₀ : Nat} {ann : Option Value} : ∀ {n : Nat} {s r : SharedT} {t : Thread}, wL p w n₀ ann n s t = some r -> topRun treeTable p w n₀ ann n s.abs t = some r.abs
  | 0, _, _, _, h => by cases h
  | n + 1, s, r, t, h => by
    unfold wL at h
    unfold topRun
    cases ht : through t with
    | true => rw [ht] at h; cases h; rfl
    | false =>
      rw [ht, <- PySem.W.Fast.te6613529449190102663] at h
      cases hk : stepOk n₀ ann t with
      | false => simp only [hk] at h; cases h
      | true =>
        simp only [hk] at h
        rw [<- PySem.W.Fast.te10156331382660048174, <- PySem.W.Fast.te11892475500146522536, <- PySem.W.Fast.te14364793385576792824] at h
        cases hs : stepT (denote treeTable) p w s t with
        | none => rw [hs] at h; cases h
        | some x => obtain ⟨s₂, t₂⟩ := x; rw [hs] at h; rw [stepT_spec hs]; exact uK h
noncomputable def rD (p : Program) (w : World) (N : Nat) (os : OsState) : Option SharedT :=
  match (boot_heap w.params).isNs mainGlobals with
  | true => (Dr (boot_heap w.params).objs.toList .nil 0).bind fun T => wL p w (boot_heap w.params).objs.size ((boot_heap w.params).nsMap mainGlobals (Str.ofString "__annotations__")) N ⟨T, (boot_heap w.params).objs.size, (boot_heap w.params).life, #[], boot_drawn, boot_toks, os⟩ (topStub p)
  | false => none
noncomputable def Bb (p : Program) (w : World) (s₁ : Shared) : Bool := staticsOk (PySem.W.Fast.tw5923862056798008813 p.main.body) (boot_heap w.params) s₁.heap && namesBound p s₁.heap && gensDone s₁ && laidKept (boot_heap w.params) s₁.heap
theorem xV {p q : Program} {loose : List Str} {Xt : Shared -> Bool} {α : Type} {Yf : Shared -> α} {Ya : World -> α} {N : Nat} (hN : Nat.ble 600 N = true) (e : opening p = plainProg p.main.scope.names) (f : ∀ s, fenceModules? p s = some s)
    (h1 : ∀ (w : World) (os : OsState), (rD p w N os).map (fun s => Bb p w s.abs) = some true)
    (h2 : ∀ (w : World) (os : OsState), (rD p w N os).map (fun s => PySem.W.Fast.tw4187177175401517315 q loose (PySem.W.Fast.tw5923862056798008813 p.main.body) Xt true s.abs) = some (openGood q loose))
    (h3 : ∀ (w : World) (os : OsState), (rD p w N os).map (fun s => Yf s.abs) = some (Ya w)) : LeftO p q loose Xt Yf Ya N := fun w => by
  obtain ⟨s, hs, e'⟩ := Option.map_eq_some_iff.mp (boot_open e hN f w)
  obtain ⟨H, gs, d, k, os⟩ := s
  obtain ⟨rfl, rfl, rfl, rfl⟩ : H = boot_heap w.params /\ gs = _ /\ d = boot_drawn /\ k = boot_toks := by simpa using e'
  obtain ⟨r, hr, l1⟩ := Option.map_eq_some_iff.mp (h1 w os)
  obtain ⟨r2, hr2, l2⟩ := Option.map_eq_some_iff.mp (h2 w os)
  obtain ⟨r3, hr3, l3⟩ := Option.map_eq_some_iff.mp (h3 w os)
  obtain rfl : r = r2 := Option.some.inj (hr.symm.trans hr2)
  obtain rfl : r = r3 := Option.some.inj (hr.symm.trans hr3)
  unfold Bb at l1
  rw [<- PySem.W.Fast.te5923862056798008813] at l1
  rw [<- PySem.W.Fast.te4187177175401517315, <- PySem.W.Fast.te5923862056798008813] at l2
  unfold rD at hr
  cases hn : (boot_heap w.params).isNs mainGlobals with
  | false => rw [hn] at hr; cases hr
  | true =>
    rw [hn] at hr
    obtain ⟨T, hT, hr⟩ := Option.bind_eq_some_iff.mp hr
    have z := uG (life := (boot_heap w.params).life) (n := 0) (a := #[]) hT rfl
    have z' : absHeap T (boot_heap w.params).objs.size (boot_heap w.params).life = boot_heap w.params := by
      rw [Nat.zero_add, Array.length_toList] at z
      rw [z]
      simp
    have hr := uK hr
    have st : (SharedT.mk T (boot_heap w.params).objs.size (boot_heap w.params).life #[] boot_drawn boot_toks os).abs = ⟨boot_heap w.params, #[], boot_drawn, boot_toks, os⟩ := by
      show Shared.mk _ _ _ _ _ = _
      rw [z']
    rw [st] at hr
    unfold openEnds
    rw [hs]
    show Option.map _ (topFrom treeTable p w N _) = _
    have t : topFrom treeTable p w N ⟨boot_heap w.params, #[], boot_drawn, boot_toks, os⟩ = some r.abs := by
      unfold topFrom
      dsimp only
      rw [hn]
      rw [hr]
      show (match staticsOk (importedModules p.main.body) (boot_heap w.params) r.abs.heap && namesBound p r.abs.heap && gensDone r.abs && laidKept (boot_heap w.params) r.abs.heap with | true => _ | false => _) = _
      rw [l1]
    rw [t]
    show some (openSeen q loose (importedModules p.main.body) Xt true r.abs, Yf r.abs) = _
    rw [l2, l3]
noncomputable def viewOf (p : Program) (keep : List Nat) : Program := { p with main := { p.main with body := keep.filterMap fun i => p.main.body[i]? } }
end L2.FE
section
open PySem PySem.W PyProof.Rows
noncomputable def FC.Q : Program := L2.FE.viewOf PySem.Challenge.pw_fallcounts_k65_whole_rounds [1,2,3,4,6,7,8,10,11,12,13,14,15,16,18,19,20,21,22,23,24,25,26,28,29,30,31,32,33,34,35,36,37,38,39,40,41,42,44,45,46,47,48,49]
theorem FC.GY : ∀ (w : World) (os : OsState), (L2.FE.rD PySem.Challenge.pw_fallcounts_k65_whole_rounds w 4148 os).map (fun s => L2.FE.Bb PySem.Challenge.pw_fallcounts_k65_whole_rounds w s.abs) = some true := fun w os => by kernel_rfl
theorem FC.Gi : ∀ (w : World) (os : OsState), (L2.FE.rD PySem.Challenge.pw_fallcounts_k65_whole_rounds w 4148 os).map (fun s => PySem.W.Fast.tw4187177175401517315 FC.Q [] (PySem.W.Fast.tw5923862056798008813 PySem.Challenge.pw_fallcounts_k65_whole_rounds.main.body) (fun s => xlAt FC.Q [] s && recOk (RowW.records (OpenRow.toRowW (OpenLaw.row PySem.Challenge.rw_fallcounts_k65_whole_rounds))) s) true s.abs) = some (openGood FC.Q []) := fun w os => by kernel_rfl
end
namespace L2
open PySem PySem.Spec PyProof.Rows
noncomputable abbrev Key := Sum Int Str
noncomputable def DT : Key -> Value -> Bool
  | .inl k, v => Value.isInt k v
  | .inr x, v => Value.isStrOf x v
noncomputable def Ij (w : World) : Key -> Int
  | .inl k => hashInt k
  | .inr x => hashStr w x
theorem cv : ∀ {k : Key} {v : Value}, DT k v = true -> (∃ i t, k = Sum.inl i /\ v = Value.int i t) \/ (∃ x t, k = Sum.inr x /\ v = Value.str x t)
  | .inl i, v, h => by
    obtain ⟨t, e⟩ := Value.isInt_shape (k := i) (v := v) h
    exact .inl ⟨i, t, rfl, e⟩
  | .inr x, v, h => by
    obtain ⟨t, e⟩ := Value.isStrOf_shape (x := x) (v := v) h
    exact .inr ⟨x, t, rfl, e⟩
theorem EZ (a b : Int) : decide ((Sum.inl a : Key) = Sum.inl b) = (a == b) := by
  by_cases e : a = b
  · subst e; simp
  · have h : ¬ (Sum.inl a : Key) = Sum.inl b := fun q => e (Sum.inl.inj q)
    rw [decide_eq_false h]
    exact (beq_eq_false_iff_ne.mpr e).symm
theorem Fi (a b : Str) : decide ((Sum.inr a : Key) = Sum.inr b) = decide (a = b) := by
  by_cases e : a = b
  · subst e; simp
  · have h : ¬ (Sum.inr a : Key) = Sum.inr b := fun q => e (Sum.inr.inj q)
    rw [decide_eq_false h, decide_eq_false e]
theorem Fd (a : Int) (b : Str) : decide ((Sum.inl a : Key) = Sum.inr b) = false := decide_eq_false (fun q => nomatch q)
theorem EW (a : Str) (b : Int) : decide ((Sum.inr a : Key) = Sum.inl b) = false := decide_eq_false (fun q => nomatch q)
noncomputable def tN (prog : Program) (w : World) : PySem.KeyKind prog w Key where
  is := DT
  hash := Ij w
  inj := fun v a b ha hb => by
    rcases cv ha with ⟨i, t, rfl, rfl⟩ | ⟨x, t, rfl, rfl⟩
    · rcases cv hb with ⟨j, u, rfl, e⟩ | ⟨y, u, rfl, e⟩
      · injection e with e1 _; rw [e1]
      · exact nomatch e
    · rcases cv hb with ⟨j, u, rfl, e⟩ | ⟨y, u, rfl, e⟩
      · exact nomatch e
      · injection e with e1 _; rw [e1]
  byValue := fun k v h => by
    rcases cv h with ⟨i, t, rfl, rfl⟩ | ⟨x, t, rfl, rfl⟩ <;> rfl
  pyHash := fun hv h => by
    rcases cv hv with ⟨i, t, rfl, rfl⟩ | ⟨x, t, rfl, rfl⟩
    · exact wpAny_pyHash_int h
    · exact wpAny_pyHash_str h
  eqBool := fun hu hv h => by
    rcases cv hu with ⟨i, t, rfl, rfl⟩ | ⟨x, t, rfl, rfl⟩
    · rcases cv hv with ⟨j, u, rfl, rfl⟩ | ⟨y, u, rfl, rfl⟩
      · rw [EZ] at h; exact wpAny_eqBool_int h
      · rw [Fd] at h; exact SeqAt.EqAt.int_str i t y u _ _ _ _ h
    · rcases cv hv with ⟨j, u, rfl, rfl⟩ | ⟨y, u, rfl, rfl⟩
      · rw [EW] at h; exact SeqAt.EqAt.str_int x t j u _ _ _ _ h
      · rw [Fi] at h; exact wpAny_eqBool_str h
  «strs» := fun k x t v h => by
    rcases cv h with ⟨i, u, rfl, e⟩ | ⟨y, u, rfl, e⟩
    · exact nomatch e
    · injection e with e1 _
      subst e1
      cases v <;> rfl
inductive V where
  | non | bl (b : Bool) | int (i : Int) | str (x : Str) | byt (b : Array UInt8) | flt (b : UInt64) | ref (a : Addr) | ty (n : String)
  deriving DecidableEq
noncomputable def RelV : V -> Value -> Prop
  | .non, u => u = Value.none
  | .bl b, u => u = Value.bool b
  | .int i, u => ∃ t, u = Value.int i t
  | .str x, u => ∃ t, u = Value.str x t
  | .byt b, u => ∃ t, u = Value.bytes b t
  | .flt b, u => ∃ t, u = Value.float b t
  | .ref a, u => u = Value.ref a
  | .ty n, u => u = Value.type n
noncomputable abbrev Vals : List V -> List Value -> Prop := Paired RelV
theorem Vals.length {xs : List V} {us : List Value} (r : Vals xs us) : xs.length = us.length := Paired.length r
theorem Vals.get : ∀ {xs : List V} {us : List Value} {i : Nat} {x : V}, Vals xs us -> xs[i]? = some x -> ∃ u, us[i]? = some u /\ RelV x u
  | _, _, _, _, .nil, e => by simp at e
  | _, _, 0, _, .cons r _, e => by simp at e; subst e; exact ⟨_, rfl, r⟩
  | _, _, i + 1, x, .cons _ t, e => by
    obtain ⟨u, h1, h2⟩ := Vals.get (i := i) (x := x) t (by simpa using e)
    exact ⟨u, by simpa using h1, h2⟩
theorem Vals.set {x : V} {u : Value} (r : RelV x u) : ∀ {xs : List V} {us : List Value} (i : Nat), Vals xs us -> Vals (xs.set i x) (us.set i u)
  | _, _, _, .nil => .nil
  | _, _, 0, .cons _ t => .cons r t
  | _, _, i + 1, .cons q t => .cons q (Vals.set r i t)
theorem Vals.append : ∀ {xs ys : List V} {us ws : List Value}, Vals xs us -> Vals ys ws -> Vals (xs ++ ys) (us ++ ws)
  | _, _, _, _, .nil, s => s
  | _, _, _, _, .cons r t, s => .cons r (Vals.append t s)
theorem Vals.take : ∀ {xs : List V} {us : List Value} (n : Nat), Vals xs us -> Vals (xs.take n) (us.take n)
  | _, _, 0, _ => .nil
  | _, _, _ + 1, .nil => .nil
  | _, _, n + 1, .cons r t => .cons r (Vals.take n t)
theorem Vals.drop : ∀ {xs : List V} {us : List Value} (n : Nat), Vals xs us -> Vals (xs.drop n) (us.drop n)
  | _, _, 0, r => r
  | _, _, _ + 1, .nil => .nil
  | _, _, n + 1, .cons _ t => Vals.drop n t
noncomputable def EO : Option V -> Option Value -> Prop
  | some v, some u => RelV v u
  | none, none => True
  | _, _ => False
noncomputable def KV {κ : Type} : List (κ × V) -> List (κ × Value) -> Prop := Paired fun (p : κ × V) (q : κ × Value) => p.1 = q.1 /\ RelV p.2 q.2
noncomputable def kV : Key -> V
  | .inl i => .int i
  | .inr x => .str x
inductive HO where
  | lst (xs : List V)
  | tup (xs : List V)
  | dK (kvs : List (Key × V)) | dT (kvs : List (List Key × V))
  | set (S : Int -> Bool) (n : Nat)
  | ins (C dx : Addr) (fs : List (Str × V))
  | own (x : Addr)
  | xd (fs : List (Str × V))
  | met (f x : Addr)
  | rng (lo hi : Int)
  | frz (o : Obj) (u : HO)
  | tbl (ps : Array Value)
  | ext (φ : Heap -> Prop)
noncomputable abbrev Hp := Addr -> Option HO
noncomputable def upd (H : Hp) (a : Addr) (o : HO) : Hp := fun b => if b = a then some o else H b
theorem aY {H : Hp} {a : Addr} {o : HO} : upd H a o a = some o := by unfold upd; rw [if_pos rfl]
theorem aW {H : Hp} {a b : Addr} {o : HO} (h : b ≠ a) : upd H a o b = H b := by unfold upd; rw [if_neg h]
theorem cE {H : Hp} {a b : Addr} {o : HO} (h : H a = some o) (h' : H b = none) : a ≠ b := by
  intro e; subst e; rw [h] at h'; cases h'
noncomputable def lx (h : Heap) (a : Addr) (its : Array Value) : Prop := ∃ o, h.get? a = some o /\ (o.cls = .type "tuple" /\ ∃ n, o.data = .seq its n) /\ o.dict = none
theorem lx.tup {h : Heap} {a : Addr} {its : Array Value} (x : lx h a its) : IsTup h a its := let ⟨o, e, ⟨c, n, d⟩, _⟩ := x; ⟨o, e, c, n, d⟩
theorem lx.new (h : Heap) (its : Array Value) : lx (h.push { cls := .type "tuple", data := .seq its }) h.objs.size its := ⟨_, Heap.get?_push_size _ rfl, ⟨rfl, _, rfl⟩, rfl⟩
section
variable (P : Program) (w : World)
noncomputable def cK (H : Hp) (h : Heap) (a : Addr) : HO -> Prop
  | .lst xs => xs.length <= sizeLine /\ ∃ (its : List Value) (n : Nat), Vals xs its /\ h.get? a = some { cls := .type "list", data := .seq its.toArray n }
  | .tup xs => xs.length <= sizeLine /\ ∃ its : List Value, Vals xs its /\ lx h a its.toArray
  | .dK kvs => kvs.length <= sizeLine /\ (a == sysModules) = false /\ ∃ vs, KV kvs vs /\ h.DictOf (tN P w) a vs
  | .dT kvs => kvs.length <= sizeLine /\ (a == sysModules) = false /\ ∃ xs : List (List Key × Addr × Value),
      Paired (fun (p : List Key × V) (q : List Key × Addr × Value) => p.1 = q.1 /\ H q.2.1 = some (.tup (p.1.map kV)) /\ RelV p.2 q.2.2) kvs xs ∧
      ∃ o es ep, h.get? a = some o /\ o.ExactDict /\ o.data = .dict es ep /\ es.toList = xs.map (entryOfKey (tupleKind (tN P w))) /\ (xs.map (·.1)).Nodup
  | .set S n => h.SetOf (intKind P w) a S n
  | .ins C dx fs => H dx = some (.own a) /\ fs.length <= 1000 /\ dx ≠ a /\ h.get? a = some (PySem.W.instObj C dx) ∧
      ∃ mA, h.Ns1 dx mA /\ (∀ f, EO (fs.lookup f) (mA f)) /\ PySem.Within mA (fs.map (·.1))
  | .own _ => ∃ o, h.get? a = some o
  | .xd fs => ∃ mA, h.Ns1 a mA /\ ∀ f, EO (fs.lookup f) (mA f)
  | .rng lo hi => ∃ t u v, h.get? a = some { cls := .type "range", data := .fields #[.int lo t, .int hi u, .int 1 v] }
  | .frz o u => h.get? a = some o /\ cK H h a u
  | .tbl ps => h.get? a = some { cls := .none, data := .fields ps }
  | .met f x => h.get? a = some (PySem.W.methodObj (.ref f) (.ref x))
  | .ext φ => φ h /\ (∃ o, h.get? a = some o) /\ ∀ h1 h2 : Heap, φ h1 -> (∀ o, h1.get? a = some o -> h2.get? a = some o) -> φ h2
noncomputable def HOk (H : Hp) (h : Heap) : Prop := ∀ a o, H a = some o -> cK P w H h a o
end
section
variable {P : Program} {w : World} {H H' : Hp} {h h' : Heap} {a : Addr} {o : HO}
theorem cK.lt (x : cK P w H h a o) : a < h.objs.size := by
  cases o with
  | lst xs => obtain ⟨_, _, _, _, e⟩ := x; exact Heap.lt_size e
  | tup xs => obtain ⟨_, _, _, _, e, _⟩ := x; exact Heap.lt_size e
  | dK kvs => obtain ⟨_, _, _, _, o, _, _, e, _⟩ := x; exact Heap.lt_size e
  | dT kvs => obtain ⟨_, _, _, _, o, _, _, e, _⟩ := x; exact Heap.lt_size e
  | set S n => obtain ⟨o, _, _, _, e, _⟩ := x; exact Heap.lt_size e
  | ins C dx fs => obtain ⟨_, _, _, e, _⟩ := x; exact Heap.lt_size e
  | own y => obtain ⟨_, e⟩ := x; exact Heap.lt_size e
  | xd fs => obtain ⟨_, ⟨_, _, _, e, _⟩, _⟩ := x; exact Heap.lt_size e
  | rng lo hi => obtain ⟨_, _, _, e⟩ := x; exact Heap.lt_size e
  | frz ob u => obtain ⟨e, _⟩ := x; exact Heap.lt_size e
  | tbl ps => exact Heap.lt_size (show h.get? a = some _ from x)
  | met f y => exact Heap.lt_size (show h.get? a = some _ from x)
  | ext φ => obtain ⟨_, ⟨_, e⟩, _⟩ := x; exact Heap.lt_size e
theorem Paired.BG {α β : Type} {F G : α -> β -> Prop} : ∀ {l₁ : List α} {l₂ : List β}, Paired F l₁ l₂ -> (∀ a b, F a b -> G a b) -> Paired G l₁ l₂
  | _, _, .nil, _ => .nil
  | _, _, .cons r t, f => .cons (f _ _ r) (Paired.BG t f)
theorem cK.pd (x : cK P w H h a o) (k : ∀ b u, (b = a \/ H b = some (.own a)) -> h.get? b = some u -> h'.get? b = some u)
    (ho : ∀ b, H b = some (.own a) -> H' b = some (.own a)) (ht : ∀ b xs, H b = some (.tup xs) -> H' b = some (.tup xs)) : cK P w H' h' a o := by
  induction o with
  | lst xs => obtain ⟨z, its, n, r, e⟩ := x; exact ⟨z, its, n, r, k _ _ (.inl rfl) e⟩
  | tup xs => obtain ⟨z, its, r, ob, e, c⟩ := x; exact ⟨z, its, r, ob, k _ _ (.inl rfl) e, c⟩
  | dK kvs => obtain ⟨z, y, vs, r, ob, es, ep, e, c⟩ := x; exact ⟨z, y, vs, r, ob, es, ep, k _ _ (.inl rfl) e, c⟩
  | dT kvs =>
    obtain ⟨z, y, xs, r, ob, es, ep, e, c⟩ := x
    exact ⟨z, y, xs, Paired.BG r fun p q z => ⟨z.1, ht _ _ z.2.1, z.2.2⟩, ob, es, ep, k _ _ (.inl rfl) e, c⟩
  | set S n => obtain ⟨ob, es, ep, t, e, c⟩ := x; exact ⟨ob, es, ep, t, k _ _ (.inl rfl) e, c⟩
  | ins C dx fs =>
    obtain ⟨d, z, ne, e, mA, ⟨od, es, ep, e2, c⟩, r⟩ := x
    exact ⟨ho _ d, z, ne, k _ _ (.inl rfl) e, mA, ⟨od, es, ep, k _ _ (.inr d) e2, c⟩, r⟩
  | own y => obtain ⟨ob, e⟩ := x; exact ⟨ob, k _ _ (.inl rfl) e⟩
  | xd fs => obtain ⟨mA, ⟨od, es, ep, e, c⟩, r⟩ := x; exact ⟨mA, ⟨od, es, ep, k _ _ (.inl rfl) e, c⟩, r⟩
  | rng lo hi => obtain ⟨t, u, v, e⟩ := x; exact ⟨t, u, v, k _ _ (.inl rfl) e⟩
  | frz ob u ih => obtain ⟨e, q⟩ := x; exact ⟨k _ _ (.inl rfl) e, ih q⟩
  | tbl ps =>
    have e : h.get? a = some { cls := .none, data := .fields ps } := x
    show h'.get? a = some { cls := .none, data := .fields ps }
    exact k a _ (.inl rfl) e
  | met f y =>
    have e : h.get? a = some (PySem.W.methodObj (.ref f) (.ref y)) := x
    show h'.get? a = some (PySem.W.methodObj (.ref f) (.ref y))
    exact k a _ (.inl rfl) e
  | ext φ => obtain ⟨p, ⟨o, e⟩, st⟩ := x; exact ⟨st _ _ p fun o q => k _ _ (.inl rfl) q, ⟨o, k _ _ (.inl rfl) e⟩, st⟩
theorem HOk.lt (x : HOk P w H h) (e : H a = some o) : a < h.objs.size := (x a o e).lt
theorem HOk.fresh (x : HOk P w H h) (e : h.objs.size <= a) : H a = none := by
  cases q : H a with
  | none => rfl
  | some u => exact absurd (Nat.lt_of_lt_of_le (x.lt q) e) (Nat.lt_irrefl _)
theorem HOk.kept (x : HOk P w H h) (k : ∀ b u, h.get? b = some u -> h'.get? b = some u) : HOk P w H h' := fun a o e =>
  (x a o e).pd (fun b u _ q => k b u q) (fun _ q => q) fun _ _ q => q
theorem HOk.laid (x : HOk P w H h) (k : ∀ b u, h.get? b = some u -> h'.get? b = some u) (hp : h.objs.size <= a) (new : cK P w (upd H a o) h' a o) : HOk P w (upd H a o) h' := fun b u e => by
  have hn := x.fresh hp
  by_cases hb : b = a
  · subst hb; rw [aY] at e; cases e; exact new
  · rw [aW hb] at e
    exact (x b u e).pd (fun c v _ q => k c v q) (fun c q => by rw [aW (cE q hn)]; exact q) fun c xs q => by rw [aW (cE q hn)]; exact q
end
noncomputable def Rd (H : Hp) (a : Addr) (u : HO) : Prop := H a = some u \/ ∃ o, H a = some (.frz o u)
theorem Rd.ok {P : Program} {w : World} {H : Hp} {h : Heap} {a : Addr} {u : HO} (r : Rd H a u) (x : HOk P w H h) : cK P w H h a u := by
  rcases r with r | ⟨o, r⟩
  · exact x a u r
  · obtain ⟨_, q⟩ := x a _ r
    exact q
noncomputable def Mut : Option HO -> Prop
  | some (.lst _) => True
  | some (.dK _) => True
  | some (.dT _) => True
  | some (.set _ _) => True
  | some (.ins _ _ _) => True
  | some (.ext _) => True
  | _ => False
section
variable {P : Program} {w : World} {H : Hp} {h h' : Heap} {x e : Addr} {o' : HO}
theorem HOk.write (ok : HOk P w H h) (mu : Mut (H x)) (he : e = x \/ H e = some (.own x)) (k : ∀ b u, b ≠ e -> h.get? b = some u -> h'.get? b = some u) (heo : ∃ u, h'.get? e = some u)
    (new : cK P w (upd H x o') h' x o') : HOk P w (upd H x o') h' := fun b u q => by
  have nown : ∀ c y, H c = some (.own y) -> c ≠ x := fun c y r z => by subst z; rw [r] at mu; exact mu
  have ntup : ∀ c xs, H c = some (.tup xs) -> c ≠ x := fun c xs r z => by subst z; rw [r] at mu; exact mu
  by_cases hb : b = x
  · subst hb; rw [aY] at q; cases q; exact new
  · rw [aW hb] at q
    by_cases hbe : b = e
    · have q' : H b = some (.own x) := by
        rcases he with z | z
        · exact absurd (hbe.trans z) hb
        · rw [hbe]; exact z
      rw [q] at q'; cases q'
      obtain ⟨v, hv⟩ := heo
      exact ⟨v, by rw [hbe]; exact hv⟩
    · refine (ok b u q).pd (fun c v hc r => k c v ?_ r) (fun c r => by rw [aW (nown c b r)]; exact r) fun c xs r => by rw [aW (ntup c xs r)]; exact r
      rcases hc with rfl | hc
      · exact hbe
      · rintro rfl
        rcases he with z | z
        · exact nown c b hc z
        · rw [hc] at z; cases z; exact hb rfl
end
structure Un (fs ex : List Addr) (H H' : Hp) (h h' : Heap) : Prop where
  keep : ∀ b o, h.get? b = some o -> H b = none -> b ∉ fs -> b ∉ ex -> h'.get? b = some o
  slot : ∀ b o, h.get? b = some o -> H b = none -> b ∈ fs -> b ∉ ex -> ∃ sl, h'.get? b = some { o with slots := sl }
  free : ∀ b o, h.get? b = some o -> H b = none -> b ∉ ex -> H' b = none
  there : ∀ b o, h.get? b = some o -> b ∉ ex -> ∃ o', h'.get? b = some o'
  qo : ∀ b xs, H b = some (.tup xs) -> H' b = some (.tup xs)
  pW : ∀ b o u, H b = some (.frz o u) -> H' b = some (.frz o u)
  qx : ∀ b ps, H b = some (.tbl ps) -> ∃ more, H' b = some (.tbl (ps ++ more))
section
variable {fs fs' ex ex' : List Addr} {H H1 H2 : Hp} {h h1 h2 h' : Heap} {a x e : Addr} {o : HO}
theorem Un.any (u : Un fs ex H H1 h h1) {b : Addr} {ob : Obj} (q : h.get? b = some ob) (n : H b = none) (hx : b ∉ ex) : ∃ sl, h1.get? b = some { ob with slots := sl } := by
  by_cases hb : b ∈ fs
  · exact u.slot b ob q n hb hx
  · exact ⟨ob.slots, u.keep b ob q n hb hx⟩
theorem Un.kept (k : ∀ b u, h.get? b = some u -> h'.get? b = some u) : Un fs ex H H h h' :=
  ⟨fun b ob q _ _ _ => k b ob q, fun b ob q _ _ _ => ⟨ob.slots, k b ob q⟩, fun _ _ _ n _ => n, fun b ob q _ => ⟨ob, k b ob q⟩, fun _ _ q => q, fun _ _ _ q => q, fun _ ps q => ⟨#[], by rw [q]; simp⟩⟩
theorem Un.refl : Un fs ex H H h h := Un.kept fun _ _ q => q
theorem Un.laid (k : ∀ b u, h.get? b = some u -> h'.get? b = some u) (hp : h.objs.size <= a) (hn : H a = none) : Un fs ex H (upd H a o) h h' where
  keep := fun b u q _ _ _ => k b u q
  slot := fun b u q _ _ _ => ⟨u.slots, k b u q⟩
  free := fun b u q n _ => by rw [aW (Nat.ne_of_lt (Nat.lt_of_lt_of_le (Heap.lt_size q) hp))]; exact n
  there := fun b u q _ => ⟨u, k b u q⟩
  qo := fun b xs q => by rw [aW (cE q hn)]; exact q
  pW := fun b u xs q => by rw [aW (cE q hn)]; exact q
  qx := fun b ps q => ⟨#[], by rw [aW (cE q hn), q]; simp⟩
theorem Un.write (mu : Mut (H x)) (he : e = x \/ H e = some (.own x)) (k : ∀ b u, b ≠ e -> h.get? b = some u -> h'.get? b = some u) (heo : ∃ u, h'.get? e = some u) : Un fs ex H (upd H x o) h h' := by
  have hx : ∀ b, H b = none -> b ≠ x := fun b n z => by subst z; rw [n] at mu; exact mu
  have hb : ∀ b, H b = none -> b ≠ e := fun b n z => by
    subst z
    rcases he with r | r
    · exact hx b n r
    · rw [n] at r; cases r
  have hm : ∀ b u, H b = some u -> ¬ Mut (some u) -> b ≠ x := fun b u q nm z => by subst z; rw [q] at mu; exact nm mu
  refine ⟨fun b u q n _ _ => k b u (hb b n) q, fun b u q n _ _ => ⟨u.slots, k b u (hb b n) q⟩, fun b u q n _ => by rw [aW (hx b n)]; exact n, fun b u q _ => ?_,
    fun b xs q => by rw [aW (hm b _ q fun z => z)]; exact q, fun b u xs q => by rw [aW (hm b _ q fun z => z)]; exact q, fun b ps q => ⟨#[], by rw [aW (hm b _ q fun z => z), q]; simp⟩⟩
  by_cases hbe : b = e
  · subst hbe; exact heo
  · exact ⟨u, k b u hbe q⟩
end
noncomputable def trk (h : Heap) (H : Hp) : List Addr := (List.range h.objs.size).filter fun a => (H a).isSome
noncomputable def tU (h : Heap) (H : Hp) : Heap := PySem.W.hideAll h (trk h H)
theorem xH (h : Heap) (H : Hp) : (tU h H).objs.size = h.objs.size := PySem.W.hideAll_size _ _
theorem zj {h : Heap} {H : Hp} {b : Addr} {o : Obj} (e : h.get? b = some o) (n : H b = none) : (tU h H).get? b = some o :=
  PySem.W.hideAll_get _ e fun hm => by
    have q : (H b).isSome = true := (List.mem_filter.mp hm).2
    rw [n] at q; simp at q
theorem Du {h : Heap} {H : Hp} {b : Addr} {o : Obj} (e : (tU h H).get? b = some o) : h.get? b = some o /\ H b = none := by
  have e' : h.get? b = some o := PySem.W.of_hideAll (trk h H) e
  refine ⟨e', ?_⟩
  cases q : H b with
  | none => rfl
  | some x =>
    have hm : b ∈ trk h H := List.mem_filter.mpr ⟨List.mem_range.mpr (Heap.lt_size e'), by simp [q]⟩
    have z : (tU h H).get? b = none := PySem.W.hideAll_none (trk h H) hm
    rw [z] at e; cases e
structure Mod (K : PySem.W.Frag) (mg : Str -> Option Value) (base : Heap) : Prop where
  kin : K.In base
  glob : base.Ns mainGlobals mg
  blt : ∃ mb, base.Ns builtinsNs mb /\ ∀ x : Str, x ≠ "__name__" -> mb x = bootBuiltins x
  nolimit : base.NoLimit
structure Cx where
  prog : Program
  w : World
  K : PySem.W.Frag
  mg : Str -> Option Value
  base : Heap
  A : Around
  N : List Str
  ay : Shared
  aB : Hp
  env : Env
  outer : List Env
  stack : List Env
  ex : List Addr
  fn : Str -> Bool
  calm : Bool
  pn : List (Addr × Obj)
  xe : Value -> Shared -> Prop
noncomputable def frs (l : List Env) : List Addr := l.filterMap (·.frame)
noncomputable abbrev Cx.fs (X : Cx) : List Addr := frs X.outer
noncomputable def Vis (sc : Scope) (x : Str) : Prop := sc.names.lookup x = some .local \/ sc.names.lookup x = some .cell \/ sc.names.lookup x = some .free
noncomputable def Loc (sc : Scope) (x : Str) : Prop := sc.names.lookup x = some .local \/ sc.names.lookup x = some .cell
noncomputable def Look (env : Env) (h : Heap) (m : Str -> Option Value) (x : Str) (u : Value) : Prop :=
  (env.kindOf x = some .local /\ m x = some u) \/ ((env.kindOf x = some .cell \/ env.kindOf x = some .free) /\ ∃ c, env.cells.lookup x = some c /\ h.IsCell c (some u))
structure Cx.Ok (X : Cx) : Prop where
  mod : Mod X.K X.mg X.base
  kind : X.env.scope.kind = .function
  glob : X.env.globals = mainGlobals
  blt : X.env.builtins = builtinsNs
  above : X.ay.heap.objs.size <= X.env.locals
  inj : ∀ x y c, X.env.cells.lookup x = some c -> X.env.cells.lookup y = some c -> x = y
  has : ∀ x, (X.env.kindOf x = some .cell \/ X.env.kindOf x = some .free) -> ∃ c, X.env.cells.lookup x = some c
  cab : ∀ x c, X.fn x = true -> X.env.cells.lookup x = some c -> X.ay.heap.objs.size <= c
  hd : X.calm = true -> X.A.handled = none
  frames : X.A.frames = some X.stack
  stk : X.stack = X.outer \/ (X.stack = X.env :: X.outer /\ X.env.frame = some X.env.locals)
  exf : ∀ b ∈ X.ex, b ≠ X.env.locals /\ ∀ x c, X.env.cells.lookup x = some c -> c ≠ b
  bs : ∀ b o, X.base.get? b = some o -> X.ay.heap.get? b = some o /\ X.aB b = none
  bsz : X.base.objs.size <= X.ay.heap.objs.size
  vB : ∀ b o, X.base.get? b = some o -> b ∉ X.ex
  BI : ∀ b ∈ X.ex, b ∉ X.fs
  qd : X.ay.heap.FunFrames X.base X.outer
  frf : ∀ b ∈ X.fs, X.aB b = none
structure Inv (X : Cx) (pins : List (Addr × Obj)) (σ : List (Option V)) (H : Hp) (s : Shared) : Prop where
  ok : X.Ok
  os : s.os = X.ay.os
  bare : AllBare s.gens
  base : Un X.fs X.ex X.aB H X.ay.heap s.heap
  loc : ∃ m, s.heap.Ns X.env.locals m /\ ∀ (i : Nat) (x : Str) (v : V), X.N[i]? = some x -> σ[i]? = some (some v) -> Vis X.env.scope x -> ∃ u, RelV v u /\ Look X.env s.heap m x u
  cell : ∀ x c, X.env.cells.lookup x = some c -> ∃ v, s.heap.IsCell c v
  free : H X.env.locals = none
  iS : ∀ x c, X.env.cells.lookup x = some c -> H c = none
  pin : ∀ p ∈ X.pn ++ pins, s.heap.get? p.1 = some p.2 /\ H p.1 = none /\ p.1 ≠ X.env.locals /\ p.1 ∉ X.fs /\ ∀ v, p.2.data ≠ .cell v
  hok : HOk X.prog X.w H s.heap
  len : σ.length = X.N.length
section
variable {X : Cx} {pins : List (Addr × Obj)} {σ : List (Option V)} {H H' : Hp} {s : Shared} {h' : Heap}
theorem Cx.Ok.HB (ok : X.Ok) {b : Addr} {o : Obj} (e : X.base.get? b = some o) : b ∉ X.fs := fun hb => by
  have := (ok.qd.mem hb).1
  rw [e] at this; cases this
theorem Inv.bs (I : Inv X pins σ H s) : ∀ b o, X.base.get? b = some o -> s.heap.get? b = some o /\ H b = none := fun b o e =>
  ⟨I.base.keep b o (I.ok.bs b o e).1 (I.ok.bs b o e).2 (I.ok.HB e) (I.ok.vB b o e), I.base.free b o (I.ok.bs b o e).1 (I.ok.bs b o e).2 (I.ok.vB b o e)⟩
theorem Inv.bk (I : Inv X pins σ H s) : ∀ b o, X.base.get? b = some o -> s.heap.get? b = some o := fun b o e => (I.bs b o e).1
theorem Inv.mod (I : Inv X pins σ H s) : Mod X.K X.mg X.base := I.ok.mod
theorem Inv.kIn (I : Inv X pins σ H s) : X.K.In s.heap := I.ok.mod.kin.keeps I.bk
theorem Inv.lt (I : Inv X pins σ H s) : X.env.locals < s.heap.objs.size := let ⟨_, hn, _⟩ := I.loc; hn.lt
theorem Inv.sz (I : Inv X pins σ H s) : X.ay.heap.objs.size <= s.heap.objs.size := Nat.le_trans I.ok.above (Nat.le_of_lt I.lt)
theorem Inv.FL (I : Inv X pins σ H s) {a : Addr} (h : s.heap.objs.size <= a) : a ∉ X.fs := fun hb => by
  obtain ⟨_, o, ho, _⟩ := I.ok.qd.mem hb
  exact absurd (Nat.lt_of_lt_of_le (Heap.lt_size ho) (Nat.le_trans I.sz h)) (Nat.lt_irrefl _)
theorem Inv.cne (I : Inv X pins σ H s) : ∀ x c, X.env.cells.lookup x = some c -> c ≠ X.env.locals := fun x c e z => by
  obtain ⟨v, o, ho, hd⟩ := I.cell x c e
  obtain ⟨m, ⟨o', es, ep, ho', hd', _⟩, _⟩ := I.loc
  rw [z, ho'] at ho; cases ho; rw [hd'] at hd; cases hd
theorem Inv.qd (I : Inv X pins σ H s) : s.heap.FunFrames X.base X.outer := by
  have all : ∀ (l : List Env), (∀ b ∈ frs l, b ∈ X.fs) -> X.ay.heap.FunFrames X.base l -> s.heap.FunFrames X.base l := by
    intro l
    induction l with
    | nil => intro _ _; trivial
    | cons env r ih =>
      intro hs hl
      obtain ⟨hk, ⟨L, o, hf, hn, ho, hd⟩, hr⟩ := hl
      have hL : L ∈ X.fs := hs L (by unfold frs; rw [List.filterMap_cons, hf]; exact List.mem_cons_self)
      obtain ⟨sl, e⟩ := I.base.slot L o ho (I.ok.frf L hL) hL fun z => I.ok.BI L z hL
      exact ⟨hk, ⟨L, _, hf, hn, e, hd⟩, ih (fun b hb => hs b (by unfold frs; rw [List.filterMap_cons, hf]; exact List.mem_cons_of_mem _ hb)) hr⟩
  exact all X.outer (fun _ hb => hb) I.ok.qd
theorem Inv.stack (I : Inv X pins σ H s) : s.heap.FunFrames X.base X.stack := by
  rcases I.ok.stk with e | ⟨e, hf⟩
  · rw [e]; exact I.qd
  · rw [e]
    obtain ⟨m, hn, _⟩ := I.loc
    refine .cons (by rw [I.ok.kind]; decide) hf hn ?_ I.qd
    exact Heap.get?_none_of_le (Nat.le_trans I.ok.bsz I.ok.above)
theorem Inv.jq (I : Inv X pins σ H s) : ∀ b ∈ frs X.stack, b ∈ X.env.locals :: X.fs := fun b hb => by
  rcases I.ok.stk with e | ⟨e, hf⟩
  · rw [e] at hb; exact List.mem_cons_of_mem _ hb
  · rw [e] at hb
    unfold frs at hb
    rw [List.filterMap_cons, hf] at hb
    exact hb
theorem Inv.nU (I : Inv X pins σ H s) : ∀ b ∈ frs X.stack, H b = none := fun b hb => by
  rcases List.mem_cons.mp (I.jq b hb) with e | hb
  · rw [e]; exact I.free
  · obtain ⟨_, o, ho, _⟩ := I.ok.qd.mem hb
    exact I.base.free b o ho (I.ok.frf b hb) fun z => I.ok.BI b z hb
theorem Inv.step {g' : Array GenState} {t' : Nat} {d' : Drawn} {ch : List Addr} (I : Inv X pins σ H s)
    (hch : ∀ b ∈ ch, (b ∈ X.ex \/ X.ay.heap.objs.size <= b) /\ b ≠ X.env.locals /\ (∀ x c, X.env.cells.lookup x = some c -> c ≠ b) /\ ∀ p ∈ X.pn ++ pins, p.1 ≠ b)
    (keep : ∀ b o, b ≠ X.env.locals -> b ∉ X.fs -> b ∉ ch -> s.heap.get? b = some o -> H b = none -> h'.get? b = some o)
    (slot : ∀ b o, b ≠ X.env.locals -> b ∈ X.fs -> b ∉ ch -> s.heap.get? b = some o -> H b = none -> ∃ sl, h'.get? b = some { o with slots := sl }) (free : ∀ b o, b ∉ ch -> s.heap.get? b = some o -> H b = none -> H' b = none)
    (there : ∀ b o, b ∉ ch -> s.heap.get? b = some o -> ∃ o', h'.get? b = some o')
    (qo : ∀ b xs, H b = some (.tup xs) -> H' b = some (.tup xs)) (pW : ∀ b o u, H b = some (.frz o u) -> H' b = some (.frz o u)) (qx : ∀ b ps, H b = some (.tbl ps) -> ∃ more, H' b = some (.tbl (ps ++ more)))
    (ns : ∀ m, s.heap.Ns X.env.locals m -> h'.Ns X.env.locals m) (hok : HOk X.prog X.w H' h') (hg : AllBare g') :
    Inv X pins σ H' { s with heap := h', gens := g', drawn := d', toks := t' } := by
  have neL : ∀ b o, X.ay.heap.get? b = some o -> b ≠ X.env.locals := fun b o e => Nat.ne_of_lt (Nat.lt_of_lt_of_le (Heap.lt_size e) I.ok.above)
  have neC : ∀ b o, X.ay.heap.get? b = some o -> b ∉ X.ex -> b ∉ ch := fun b o e hx hb => by
    rcases (hch b hb).1 with z | z
    · exact hx z
    · exact absurd (Nat.lt_of_lt_of_le (Heap.lt_size e) z) (Nat.lt_irrefl _)
  have cellK : ∀ x c, X.env.cells.lookup x = some c -> ∀ v, s.heap.IsCell c v -> h'.IsCell c v := fun x c e v ⟨o, ho, hd⟩ => by
    have nch : c ∉ ch := fun z => (hch c z).2.2.1 x c e rfl
    by_cases hc : c ∈ X.fs
    · obtain ⟨sl, q⟩ := slot c o (I.cne x c e) hc nch ho (I.iS x c e)
      exact ⟨_, q, hd⟩
    · exact ⟨o, keep c o (I.cne x c e) hc nch ho (I.iS x c e), hd⟩
  refine ⟨I.ok, I.os, hg, ⟨fun b o e n hb hx => ?_, fun b o e n hb hx => ?_, fun b o e n hx => ?_, fun b o e hx => ?_, fun b xs e => qo b xs (I.base.qo b xs e), fun b o xs e => pW b o xs (I.base.pW b o xs e), fun b ps e => ?_⟩, ?_, fun x c e => ?_, ?_, fun x c e => ?_, fun p hp => ?_, hok, I.len⟩
  · exact keep b o (neL b o e) hb (neC b o e hx) (I.base.keep b o e n hb hx) (I.base.free b o e n hx)
  · obtain ⟨sl, e1⟩ := I.base.slot b o e n hb hx
    obtain ⟨sl', e2⟩ := slot b _ (neL b o e) hb (neC b o e hx) e1 (I.base.free b o e n hx)
    exact ⟨sl', e2⟩
  · obtain ⟨o', e1⟩ := I.base.there b o e hx
    exact free b o' (neC b o e hx) e1 (I.base.free b o e n hx)
  · obtain ⟨o', e1⟩ := I.base.there b o e hx
    exact there b o' (neC b o e hx) e1
  · obtain ⟨m1, e1⟩ := I.base.qx b ps e
    obtain ⟨m2, e2⟩ := qx b _ e1
    exact ⟨m1 ++ m2, by rw [e2, Array.append_assoc]⟩
  · obtain ⟨m, hn, hl⟩ := I.loc
    refine ⟨m, ns m hn, fun i x v e1 e2 e3 => ?_⟩
    obtain ⟨u, r, l⟩ := hl i x v e1 e2 e3
    refine ⟨u, r, ?_⟩
    rcases l with l | ⟨k, c, e, z⟩
    · exact .inl l
    · exact .inr ⟨k, c, e, cellK x c e _ z⟩
  · obtain ⟨v, z⟩ := I.cell x c e
    exact ⟨v, cellK x c e v z⟩
  · obtain ⟨m, ⟨o, _, _, ho, _⟩, _⟩ := I.loc
    exact free _ o (fun z => (hch _ z).2.1 rfl) ho I.free
  · obtain ⟨v, o, ho, hd⟩ := I.cell x c e
    exact free c o (fun z => (hch c z).2.2.1 x c e rfl) ho (I.iS x c e)
  · obtain ⟨e, n, ne, nf, d⟩ := I.pin p hp
    have nch : p.1 ∉ ch := fun z => (hch p.1 z).2.2.2 p hp rfl
    exact ⟨keep p.1 p.2 ne nf nch e n, free p.1 p.2 nch e n, ne, nf, d⟩
theorem Inv.un {t' : Nat} (I : Inv X pins σ H s) (u : Un X.fs [] H H' s.heap h') (hok : HOk X.prog X.w H' h') : Inv X pins σ H' { s with heap := h', toks := t' } := by
  obtain ⟨m, ⟨o, es, ep, ho, r⟩, _⟩ := id I.loc
  obtain ⟨sl, hL⟩ := u.any ho I.free (by simp)
  exact I.step (g' := s.gens) (d' := s.drawn) (ch := []) (fun _ z => nomatch z) (fun b o _ hb _ e n => u.keep b o e n hb (by simp)) (fun b o _ hb _ e n => u.slot b o e n hb (by simp)) (fun b o _ e n => u.free b o e n (by simp)) (fun b o _ e => u.there b o e (by simp)) u.qo u.pW u.qx (fun m' hm => by
    obtain ⟨o', es', ep', ho', r'⟩ := hm
    rw [ho] at ho'; cases ho'
    exact ⟨_, es', ep', hL, r'⟩) hok I.bare
theorem Inv.call {g' : Array GenState} {t' : Nat} {d' : Drawn} {ch : List Addr} (I : Inv X pins σ H s) (u : Un (frs X.stack) ch H H' s.heap h') (hok : HOk X.prog X.w H' h') (hg : AllBare g')
    (hch : ∀ b ∈ ch, (b ∈ X.ex \/ X.ay.heap.objs.size <= b) /\ b ≠ X.env.locals /\ (∀ x c, X.env.cells.lookup x = some c -> c ≠ b) /\ ∀ p ∈ X.pn ++ pins, p.1 ≠ b) :
    Inv X pins σ H' { s with heap := h', gens := g', drawn := d', toks := t' } := by
  obtain ⟨m, ⟨o, es, ep, ho, r⟩, _⟩ := id I.loc
  obtain ⟨sl, hL⟩ := u.any ho I.free fun z => (hch _ z).2.1 rfl
  exact I.step (ch := ch) hch (fun b o hL hb hc e n => u.keep b o e n (fun z => (List.mem_cons.mp (I.jq b z)).elim hL hb) hc) (fun b o _ _ hc e n => u.any e n hc) (fun b o hc e n => u.free b o e n hc) (fun b o hc e => u.there b o e hc) u.qo u.pW u.qx (fun m' hm => by
    obtain ⟨o', es', ep', ho', r'⟩ := hm
    rw [ho] at ho'; cases ho'
    exact ⟨_, es', ep', hL, r'⟩) hok hg
theorem Inv.turned {t' : Nat} {it : Addr} (I : Inv X pins σ H s) (k : ∀ b o, b ≠ it -> s.heap.get? b = some o -> h'.get? b = some o) (hn : H it = none) (hL : it ≠ X.env.locals)
    (h1 : it ∈ X.ex \/ X.ay.heap.objs.size <= it) (h2 : ∀ x c, X.env.cells.lookup x = some c -> c ≠ it) (h3 : ∀ p ∈ X.pn ++ pins, p.1 ≠ it) : Inv X pins σ H { s with heap := h', toks := t' } := by
  have nit : ∀ b u, H b = some u -> b ≠ it := fun b u e z => by rw [z, hn] at e; cases e
  refine I.step (g' := s.gens) (d' := s.drawn) (ch := [it]) (fun b hb => ?_) (fun b o _ _ hc e _ => k b o (fun z => hc (by simp [z])) e) (fun b o _ _ hc e _ => ⟨o.slots, k b o (fun z => hc (by simp [z])) e⟩) (fun _ _ _ _ n => n)
    (fun b o hc e => ⟨o, k b o (fun z => hc (by simp [z])) e⟩) (fun _ _ e => e) (fun _ _ _ e => e) (fun b ps e => ⟨#[], by rw [e]; simp⟩) (fun m hm => ?_) (fun b u e => ?_) I.bare
  · have e : b = it := by simpa using hb
    subst e
    exact ⟨h1, hL, h2, h3⟩
  · obtain ⟨o, es, ep, ho, r⟩ := hm
    exact ⟨o, es, ep, k _ o (Ne.symm hL) ho, r⟩
  · refine (I.hok b u e).pd (fun c v hc q => k c v ?_ q) (fun _ q => q) fun _ _ q => q
    rcases hc with z | z
    · rw [z]; exact nit b u e
    · exact nit c _ z
theorem Inv.tok (I : Inv X pins σ H s) (t : Nat) : Inv X pins σ H { s with toks := t } := I.un (h' := s.heap) (t' := t) Un.refl I.hok
theorem Inv.kept {t' : Nat} (I : Inv X pins σ H s) (k : ∀ b u, s.heap.get? b = some u -> h'.get? b = some u) : Inv X pins σ H { s with heap := h', toks := t' } := I.un (Un.kept k) (I.hok.kept k)
theorem Inv.laid {a : Addr} {o : HO} {t' : Nat} (I : Inv X pins σ H s) (k : ∀ b u, s.heap.get? b = some u -> h'.get? b = some u) (hp : s.heap.objs.size <= a) (new : cK X.prog X.w (upd H a o) h' a o) :
    Inv X pins σ (upd H a o) { s with heap := h', toks := t' } := I.un (Un.laid k hp (I.hok.fresh hp)) (I.hok.laid k hp new)
theorem Inv.write {x e : Addr} {o : HO} {t' : Nat} (I : Inv X pins σ H s) (mu : Mut (H x)) (he : e = x \/ H e = some (.own x)) (k : ∀ b u, b ≠ e -> s.heap.get? b = some u -> h'.get? b = some u) (heo : ∃ u, h'.get? e = some u)
    (new : cK X.prog X.w (upd H x o) h' x o) : Inv X pins σ (upd H x o) { s with heap := h', toks := t' } := I.un (Un.write mu he k heo) (I.hok.write mu he k heo new)
theorem Inv.kM {pins' : List (Addr × Obj)} (I : Inv X pins σ H s) (h : ∀ p ∈ pins', s.heap.get? p.1 = some p.2 /\ H p.1 = none /\ p.1 ≠ X.env.locals /\ p.1 ∉ X.fs /\ ∀ v, p.2.data ≠ .cell v) : Inv X pins' σ H s :=
  ⟨I.ok, I.os, I.bare, I.base, I.loc, I.cell, I.free, I.iS, fun p hp => (List.mem_append.mp hp).elim (fun z => I.pin p (List.mem_append_left _ z)) (h p), I.hok, I.len⟩
theorem uf {N : List Str} (hN : N.Nodup) {i j : Nat} {x : Str} (a : N[i]? = some x) (b : N[j]? = some x) : i = j := by
  obtain ⟨h1, e1⟩ := List.getElem?_eq_some_iff.mp a
  obtain ⟨h2, e2⟩ := List.getElem?_eq_some_iff.mp b
  exact (List.getElem_inj hN).mp (e1.trans e2.symm)
theorem yC {M : Model} {A : Around} {E : Value -> Shared -> Prop} {i : Nat} {x : Str} {v : V} {u : Value} {Q : Unit -> Shared -> Prop} (I : Inv X pins σ H s) (hN : X.N.Nodup) (hi : X.N[i]? = some x) (hx : Loc X.env.scope x) (r : RelV v u)
    (h : ∀ s', Inv X pins (σ.set i (some v)) H s' -> (∃ a, Heap.SameBut a s.heap s'.heap /\ (a = X.env.locals \/ X.env.cells.lookup x = some a)) -> Q () s') (hf : X.fn x = true \/ X.env.scope.names.lookup x = some .local := by first | exact .inl rfl | exact .inr rfl | assumption) : wpAny M A (storeName X.env x u) Q E s := by
  obtain ⟨m, hn, hl⟩ := id I.loc
  have hcls : (X.env.scope.kind == .class || (X.env.scope.kind == .module && X.env.locals != X.env.globals)) = false := by rw [I.ok.kind]; rfl
  have hiσ : i < σ.length := by rw [I.len]; exact (List.getElem?_eq_some_iff.mp hi).1
  have cne := I.cne
  have tracked : ∀ {a : Addr} {h' : Heap}, (∃ o, s.heap.get? a = some o /\ H a = none) -> Heap.SameBut a s.heap h' -> HOk X.prog X.w H h' := fun {a h'} ha hs b ob e => by
    obtain ⟨_, _, hfree⟩ := ha
    refine (I.hok b ob e).pd (fun c w' hc q => (hs.2 c ?_).trans q) (fun _ q => q) fun _ _ q => q
    rintro rfl
    rcases hc with rfl | hc
    · rw [hfree] at e; cases e
    · rw [hfree] at hc; cases hc
  rcases hx with hk | hk
  · refine wpAny_storeName_local hk hn (fun h' hn' hs => ?_) hcls
    obtain ⟨oL, _, _, hoL, _⟩ := id hn
    refine h _ ⟨I.ok, I.os, I.bare, ⟨fun b o e n hb hx => ?_, fun b o e n hb hx => ?_, I.base.free, fun b o e hx => ?_, I.base.qo, I.base.pW, I.base.qx⟩, ⟨_, hn', fun j y v' e1 e2 e3 => ?_⟩, fun y c e => ?_, I.free, I.iS, fun p hp => ?_, tracked ⟨oL, hoL, I.free⟩ hs, by simpa using I.len⟩ ⟨_, hs, .inl rfl⟩
    · exact (hs.2 b (Nat.ne_of_lt (Nat.lt_of_lt_of_le (Heap.lt_size e) I.ok.above))).trans (I.base.keep b o e n hb hx)
    · obtain ⟨sl, e1⟩ := I.base.slot b o e n hb hx
      exact ⟨sl, (hs.2 b (Nat.ne_of_lt (Nat.lt_of_lt_of_le (Heap.lt_size e) I.ok.above))).trans e1⟩
    · obtain ⟨o', e1⟩ := I.base.there b o e hx
      exact ⟨o', (hs.2 b (Nat.ne_of_lt (Nat.lt_of_lt_of_le (Heap.lt_size e) I.ok.above))).trans e1⟩
    · by_cases hj : j = i
      · subst hj
        rw [hi] at e1; cases e1
        rw [List.getElem?_set_self hiσ] at e2
        cases e2
        exact ⟨u, r, .inl ⟨hk, by simp⟩⟩
      · rw [List.getElem?_set_ne (Ne.symm hj)] at e2
        obtain ⟨u', r', q⟩ := hl j y v' e1 e2 e3
        refine ⟨u', r', ?_⟩
        rcases q with ⟨k, e⟩ | ⟨k, c, e, z⟩
        · refine .inl ⟨k, ?_⟩
          have : y ≠ x := fun e => hj (uf hN e1 (e ▸ hi))
          simp [this, e]
        · exact .inr ⟨k, c, e, z.sameBut hs (cne y c e)⟩
    · obtain ⟨w', z⟩ := I.cell y c e
      exact ⟨w', z.sameBut hs (cne y c e)⟩
    · obtain ⟨e, n, ne, nf, d⟩ := I.pin p hp
      exact ⟨(hs.2 p.1 ne).trans e, n, ne, nf, d⟩
  · have hfn : X.fn x = true := by
      rcases hf with z | z
      · exact z
      · rw [z] at hk; cases hk
    obtain ⟨c, hc⟩ := I.ok.has x (.inl hk)
    obtain ⟨w', z⟩ := I.cell x c hc
    refine wpAny_storeName_cell I.ok.kind hk hc z (fun h' hc' hs => ?_)
    obtain ⟨oc, hoc, hocd⟩ := id z
    refine h { s with heap := h' } ⟨I.ok, I.os, I.bare, ⟨fun b o e n hb hx => ?_, fun b o e n hb hx => ?_, I.base.free, fun b o e hx => ?_, I.base.qo, I.base.pW, I.base.qx⟩, ⟨m, hn.sameBut hs (Ne.symm (cne x c hc)), fun j y v' e1 e2 e3 => ?_⟩, fun y c' e => ?_, I.free, I.iS, fun p hp => ?_, tracked ⟨oc, hoc, I.iS x c hc⟩ hs, by simpa using I.len⟩ ⟨c, hs, .inr hc⟩
    · exact (hs.2 b (Nat.ne_of_lt (Nat.lt_of_lt_of_le (Heap.lt_size e) (I.ok.cab x c hfn hc)))).trans (I.base.keep b o e n hb hx)
    · obtain ⟨sl, e1⟩ := I.base.slot b o e n hb hx
      exact ⟨sl, (hs.2 b (Nat.ne_of_lt (Nat.lt_of_lt_of_le (Heap.lt_size e) (I.ok.cab x c hfn hc)))).trans e1⟩
    · obtain ⟨o', e1⟩ := I.base.there b o e hx
      exact ⟨o', (hs.2 b (Nat.ne_of_lt (Nat.lt_of_lt_of_le (Heap.lt_size e) (I.ok.cab x c hfn hc)))).trans e1⟩
    · by_cases hj : j = i
      · subst hj
        rw [hi] at e1; cases e1
        rw [List.getElem?_set_self hiσ] at e2
        cases e2
        exact ⟨u, r, .inr ⟨.inl hk, c, hc, hc'⟩⟩
      · rw [List.getElem?_set_ne (Ne.symm hj)] at e2
        obtain ⟨u', r', q⟩ := hl j y v' e1 e2 e3
        refine ⟨u', r', ?_⟩
        rcases q with q | ⟨k, c', e, z'⟩
        · exact .inl q
        · refine .inr ⟨k, c', e, z'.sameBut hs ?_⟩
          rintro rfl
          exact hj (uf hN e1 (I.ok.inj _ _ _ e hc ▸ hi))
    · by_cases hcc : c' = c
      · subst hcc; exact ⟨_, hc'⟩
      · obtain ⟨w2, z2⟩ := I.cell y c' e
        exact ⟨w2, z2.sameBut hs hcc⟩
    · obtain ⟨e, n, ne, nf, d⟩ := I.pin p hp
      refine ⟨(hs.2 p.1 ?_).trans e, n, ne, nf, d⟩
      intro q
      rw [q, hoc] at e
      have q' : oc = p.2 := Option.some.inj e
      exact d w' (by rw [<- q']; exact hocd)
theorem gY {M : Model} {A : Around} {E : Value -> Shared -> Prop} {i : Nat} {x : Str} {v : V} {u : Value} {Q : Unit -> Shared -> Prop} (I : Inv X pins σ H s) (hN : X.N.Nodup) (hi : X.N[i]? = some x) (hx : Loc X.env.scope x) (r : RelV v u)
    (h : ∀ s', Inv X pins (σ.set i (some v)) H s' -> Q () s') (hf : X.fn x = true \/ X.env.scope.names.lookup x = some .local := by first | exact .inl rfl | exact .inr rfl | assumption) : wpAny M A (storeName X.env x u) Q E s :=
  yC I hN hi hx r (fun s' I' _ => h s' I') hf
theorem Inv.rh {s' : Shared} {ch : List Addr} (I : Inv X pins σ H s) (ho : s'.os = s.os) (u : Un (frs X.stack) ch H H' s.heap s'.heap) (hok : HOk X.prog X.w H' s'.heap) (hg : AllBare s'.gens)
    (hch : ∀ b ∈ ch, (b ∈ X.ex \/ X.ay.heap.objs.size <= b) /\ b ≠ X.env.locals /\ (∀ x c, X.env.cells.lookup x = some c -> c ≠ b) /\ ∀ p ∈ X.pn ++ pins, p.1 ≠ b) : Inv X pins σ H' s' := by
  obtain ⟨h', g', d', t', o'⟩ := s'
  have e : o' = s.os := ho
  subst e
  exact I.call (g' := g') (t' := t') (d' := d') u hok hg hch
end
noncomputable abbrev XK := Value -> Option Addr -> Hp -> Prop
noncomputable abbrev St := List (Option V)
noncomputable abbrev VK := V -> Hp -> Prop
noncomputable abbrev TE := St -> Hp -> VK -> Prop
noncomputable abbrev TT := St -> Hp -> (Bool -> Hp -> Prop) -> Prop
noncomputable abbrev TA := St -> Hp -> (List V -> Hp -> Prop) -> Prop
structure Ends where
  nx : St -> Hp -> Prop
  rt : VK
  bk : St -> Hp -> Prop := fun _ _ => False
  ct : St -> Hp -> Prop := fun _ _ => False
noncomputable abbrev TS := Ends -> St -> Hp -> Prop
noncomputable def EP (X : Cx) (pins : List (Addr × Obj)) (σ : St) (Q : VK) (u : Value) (s' : Shared) : Prop := ∃ v H', Inv X pins σ H' s' /\ RelV v u /\ Q v H'
noncomputable def TP (X : Cx) (pins : List (Addr × Obj)) (σ : St) (Q : Bool -> Hp -> Prop) (b : Bool) (s' : Shared) : Prop := ∃ H', Inv X pins σ H' s' /\ Q b H'
noncomputable def AP (X : Cx) (pins : List (Addr × Obj)) (σ : St) (Q : List V -> Hp -> Prop) (us : List Value) (s' : Shared) : Prop := ∃ vs H', Inv X pins σ H' s' /\ Vals vs us /\ Q vs H'
noncomputable def SP (X : Cx) (pins : List (Addr × Obj)) (D : Ends) (f : Flow) (s' : Shared) : Prop :=
  match f with
  | .next => ∃ σ' H', Inv X pins σ' H' s' /\ D.nx σ' H'
  | .brk => ∃ σ' H', Inv X pins σ' H' s' /\ D.bk σ' H'
  | .cont => ∃ σ' H', Inv X pins σ' H' s' /\ D.ct σ' H'
  | .ret u => ∃ v σ' H', Inv X pins σ' H' s' /\ RelV v u /\ D.rt v H'
noncomputable def PE (X : Cx) (e : Expr) (t : TE) : Prop :=
  ∀ (pins : List (Addr × Obj)) (s : Shared) (σ : St) (H : Hp) (Q : VK), Inv X pins σ H s -> t σ H Q -> wpAny (model X.prog X.w) X.A (eval e X.env) (EP X pins σ Q) X.xe s
noncomputable def PT (X : Cx) (e : Expr) (t : TT) : Prop :=
  ∀ (pins : List (Addr × Obj)) (s : Shared) (σ : St) (H : Hp) (Q : Bool -> Hp -> Prop), Inv X pins σ H s -> t σ H Q -> wpAny (model X.prog X.w) X.A (isTrue e X.env (eval e X.env)) (TP X pins σ Q) X.xe s
noncomputable def PW (X : Cx) (e : Expr) (t : TT) : Prop :=
  ∀ (whole : Sem Value) (pins : List (Addr × Obj)) (s : Shared) (σ : St) (H : Hp) (Q : Bool -> Hp -> Prop), Inv X pins σ H s -> t σ H Q -> wpAny (model X.prog X.w) X.A (isTrue e X.env whole) (TP X pins σ Q) X.xe s
theorem PW.pt {X : Cx} {e : Expr} {t : TT} (h : PW X e t) : PT X e t := h _
noncomputable def PA (X : Cx) (es : List Expr) (t : TA) : Prop :=
  ∀ (pos : Pos) (pins : List (Addr × Obj)) (s : Shared) (σ : St) (H : Hp) (Q : List V -> Hp -> Prop), Inv X pins σ H s -> t σ H Q -> wpAny (model X.prog X.w) X.A (spliced (backTo pos (starEach es X.env))) (AP X pins σ Q) X.xe s
noncomputable def PS (X : Cx) (st : Stmt) (t : TS) : Prop :=
  ∀ (pins : List (Addr × Obj)) (s : Shared) (σ : St) (H : Hp) (D : Ends), Inv X pins σ H s -> t D σ H -> wpAny (model X.prog X.w) X.A (exec st X.env) (SP X pins D) X.xe s
noncomputable def PSs (X : Cx) (st : List Stmt) (t : TS) : Prop :=
  ∀ (pins : List (Addr × Obj)) (s : Shared) (σ : St) (H : Hp) (D : Ends), Inv X pins σ H s -> t D σ H -> wpAny (model X.prog X.w) X.A (execs st X.env) (SP X pins D) X.xe s
theorem thn {α : Type} {t : Sem α} {Q Q' : α -> Shared -> Prop} {M : Model} {A : Around} {E : Value -> Shared -> Prop} {s : Shared} (h : wpAny M A t Q E s) (hQ : ∀ a s, Q a s -> Q' a s) : wpAny M A t Q' E s := wpAny_mono h hQ fun _ _ x => x
section
variable {X : Cx}
noncomputable def Ic (i : Nat) : TE := fun σ H Q => ∃ v, σ[i]? = some (some v) /\ Q v H
noncomputable def tC (v : V) : TE := fun _ H Q => Q v H
theorem Ei {i : Nat} {x : Str} {pos : Pos} (hN : X.N[i]? = some x) (hv : Vis X.env.scope x) (hd : (x == ("__debug__" : Str)) = false := by decide) (hcd : (x == ("__classdict__" : Str)) = false := by decide) : PE X (.Name x pos) (Ic i) := by
  intro pins s σ H Q I h
  obtain ⟨v, e, h⟩ := h
  obtain ⟨m, hn, hl⟩ := I.loc
  obtain ⟨u, r, l⟩ := hl i x v hN e hv
  have fin : EP X pins σ Q u s := ⟨v, H, I, r, h⟩
  rcases l with ⟨hk, hm⟩ | ⟨hk, c, hc, hcell⟩
  · exact wpAny_Name (wpAny_loadName_local I.ok.kind hk hn hm fin) hd
  · rcases hk with hk | hk
    · exact wpAny_Name (wpAny_loadName_cell I.ok.kind hk hc hcell fin) hd
    · exact wpAny_Name (wpAny_loadName_free I.ok.kind hk hc hcell fin hcd) hd
theorem Ar {i j pos} : PE X (.Constant (.int i) j pos) (tC (.int i)) := fun _ _ _ H _ I h => wpAny_Constant_int ⟨.int i, H, I.tok _, ⟨_, rfl⟩, h⟩
theorem GN {b j pos} : PE X (.Constant (.bool b) j pos) (tC (.bl b)) := fun _ _ _ H _ I h => Constant_bool ⟨.bl b, H, I, rfl, h⟩
noncomputable def Gl (X : Cx) (x : Str) : Prop := X.env.kindOf x = some .globalImplicit
theorem xi {E : Value -> Shared -> Prop} {pins : List (Addr × Obj)} {s : Shared} {σ : St} {H : Hp} {x : Str} {u : Value} {pos : Pos} {Q : Value -> Shared -> Prop} (I : Inv X pins σ H s) (hg : Gl X x) (hm : X.mg x = some u) (h : Q u s)
    (hd : (x == ("__debug__" : Str)) = false := by decide) : wpAny (model X.prog X.w) X.A (eval (.Name x pos) X.env) Q E s :=
  Calls.Name_function_global I.ok.kind hg (Calls.loadGlobal_global (by rw [I.ok.glob]; exact I.mod.glob.keeps I.bk) hm h) hd
theorem iG {E : Value -> Shared -> Prop} {pins : List (Addr × Obj)} {s : Shared} {σ : St} {H : Hp} {x : Str} {u : Value} {pos : Pos} {Q : Value -> Shared -> Prop} (I : Inv X pins σ H s) (hg : Gl X x) (hm : X.mg x = none) (hv : bootBuiltins x = some u) (h : Q u s)
    (hn : x ≠ "__name__" := by decide) (hd : (x == ("__debug__" : Str)) = false := by decide) : wpAny (model X.prog X.w) X.A (eval (.Name x pos) X.env) Q E s := by
  obtain ⟨mb, h1, h2⟩ := I.mod.blt
  exact Calls.Name_function_global I.ok.kind hg (Calls.loadGlobal_builtin (by rw [I.ok.glob]; exact I.mod.glob.keeps I.bk) hm (by rw [I.ok.blt]; exact h1.keeps I.bk) ((h2 x hn).trans hv) h) hd
theorem Cp {x : Str} {v : V} {u : Value} {pos : Pos} (hg : Gl X x) (hm : X.mg x = some u) (r : RelV v u) (hd : (x == ("__debug__" : Str)) = false := by decide) : PE X (.Name x pos) (tC v) :=
  fun _ _ _ H _ I h => xi I hg hm ⟨v, H, I, r, h⟩ hd
theorem CU {x : Str} {v : V} {u : Value} {pos : Pos} (hg : Gl X x) (hm : X.mg x = none) (hv : bootBuiltins x = some u) (r : RelV v u) (hn : x ≠ "__name__" := by decide) (hd : (x == ("__debug__" : Str)) = false := by decide) : PE X (.Name x pos) (tC v) :=
  fun _ _ _ H _ I h => iG I hg hm hv ⟨v, H, I, r, h⟩ hn hd
variable {a b : Expr} {ta tb : TE} {pos : Pos}
variable {tA tB' : TT} {rest : List Expr}
noncomputable def Ig (t u : TT) : TT := fun σ H Q => t σ H fun c H1 => if c = true then u σ H1 Q else Q false H1
noncomputable def tOr (t u : TT) : TT := fun σ H Q => t σ H fun c H1 => if c = true then Q true H1 else u σ H1 Q
noncomputable def Ip (t : TT) : TT := fun σ H Q => t σ H fun c H1 => Q (!c) H1
theorem pw_and1 (ha : PT X a tA) : PW X (.BoolOp .And [a] pos) tA := by
  intro wh pins s σ H Q I h
  refine isTrue_and (thn (ha pins s σ H Q I h) fun c s1 e => ?_)
  cases c with
  | true => exact isTrue_and_nil e
  | false => exact e
theorem pw_or1 (ha : PT X a tA) : PW X (.BoolOp .Or [a] pos) tA := by
  intro wh pins s σ H Q I h
  refine isTrue_or (thn (ha pins s σ H Q I h) fun c s1 e => ?_)
  cases c with
  | false => exact isTrue_or_nil e
  | true => exact e
theorem pw_and (ha : PT X a tA) (hb : PW X (.BoolOp .And (b :: rest) pos) tB') : PW X (.BoolOp .And (a :: b :: rest) pos) (Ig tA tB') := by
  intro wh pins s σ H Q I h
  refine isTrue_and (thn (ha pins s σ H _ I h) fun c s1 ⟨H1, I1, q1⟩ => ?_)
  cases c with
  | true => exact hb wh pins s1 σ H1 Q I1 q1
  | false => exact ⟨H1, I1, q1⟩
theorem pw_or (ha : PT X a tA) (hb : PW X (.BoolOp .Or (b :: rest) pos) tB') : PW X (.BoolOp .Or (a :: b :: rest) pos) (tOr tA tB') := by
  intro wh pins s σ H Q I h
  refine isTrue_or (thn (ha pins s σ H _ I h) fun c s1 ⟨H1, I1, q1⟩ => ?_)
  cases c with
  | true => exact ⟨H1, I1, q1⟩
  | false => exact hb wh pins s1 σ H1 Q I1 q1
theorem EV (ha : PT X a tA) : PT X (.UnaryOp .Not a pos) (Ip tA) := by
  intro pins s σ H Q I h
  exact isTrue_not (ha pins s σ H (fun c H1 => Q (!c) H1) I h)
noncomputable def FZ (ta tb : TE) : TE := fun σ H Q => ta σ H fun x H1 => ∃ c, x = .bl c /\ if c = true then tb σ H1 Q else Q (.bl false) H1
noncomputable def Gy (ta : TE) : TE := fun σ H Q => ta σ H fun x H1 => ∃ c, x = .bl c /\ Q (.bl (!c)) H1
theorem ER {op} {t : TE} (h : PE X a t) : PE X (.BoolOp op [a] pos) t := fun pins s σ H Q I hw => BoolOp_one (h pins s σ H Q I hw)
theorem Eu (ha : PE X a ta) (hb : PE X (.BoolOp .And (b :: rest) pos) tb) : PE X (.BoolOp .And (a :: b :: rest) pos) (FZ ta tb) := by
  intro pins s σ H Q I h
  refine BoolOp_and (thn (ha pins s σ H _ I h) fun v s1 ⟨x, H1, I1, r1, q1⟩ => ?_)
  obtain ⟨c, rfl, q1⟩ := q1
  cases r1
  refine wpAny_truthy_bool ?_
  cases c with
  | true => exact hb pins s1 σ H1 Q I1 q1
  | false => exact ⟨.bl false, H1, I1, rfl, q1⟩
theorem Ea (ha : PE X a ta) : PE X (.UnaryOp .Not a pos) (Gy ta) := by
  intro pins s σ H Q I h
  refine UnaryOp_ (thn (ha pins s σ H _ I h) fun v s1 ⟨x, H1, I1, r1, q1⟩ => ?_)
  obtain ⟨c, rfl, q1⟩ := q1
  cases r1
  exact not_of (wpAny_truthy_bool ⟨.bl (!c), H1, I1, rfl, q1⟩)
noncomputable def tIf (t : TT) (ta tb : TE) : TE := fun σ H Q => t σ H fun c H1 => if c = true then ta σ H1 Q else tb σ H1 Q
theorem zP {c : Expr} (hc : PT X c tA) (ha : PE X a ta) (hb : PE X b tb) : PE X (.IfExp c a b pos) (tIf tA ta tb) := by
  intro pins s σ H Q I h
  refine wpAny_IfExp (thn (hc pins s σ H _ I h) fun d s1 ⟨H1, I1, q1⟩ => ?_)
  cases d with
  | true => exact ha pins s1 σ H1 Q I1 q1
  | false => exact hb pins s1 σ H1 Q I1 q1
end
noncomputable def SqL (K : PySem.W.Frag) (H : Hp) (a : Addr) (xs : List V) : Prop :=
  Rd H a (.lst xs) ∨
    ∃ (o : Obj) (its : Array Value) (n : Nat), K.lookup a = some o /\ o.cls = .type "list" /\ o.dict = none /\ o.data = .seq its n /\ its.size <= sizeLine /\ Vals xs its.toList
noncomputable def SqT (K : PySem.W.Frag) (H : Hp) (a : Addr) (xs : List V) : Prop :=
  Rd H a (.tup xs) ∨
    ∃ (o : Obj) (its : Array Value) (n : Nat), K.lookup a = some o /\ o.cls = .type "tuple" /\ o.data = .seq its n /\ its.size <= sizeLine /\ Vals xs its.toList
noncomputable def HI : Value -> Option V
  | .none => some .non
  | .bool b => some (.bl b)
  | .int i _ => some (.int i)
  | .str x _ => some (.str x)
  | .bytes b _ => some (.byt b)
  | .float b _ => some (.flt b)
  | .ref a => some (.ref a)
  | .type n => some (.ty n)
  | _ => none
theorem RelV.abs {x : V} {u : Value} (r : RelV x u) : HI u = some x := by
  cases x with
  | non => cases r; rfl
  | bl _ => cases r; rfl
  | int _ => obtain ⟨t, rfl⟩ := r; rfl
  | str _ => obtain ⟨t, rfl⟩ := r; rfl
  | byt _ => obtain ⟨t, rfl⟩ := r; rfl
  | flt _ => obtain ⟨t, rfl⟩ := r; rfl
  | ref _ => cases r; rfl
  | ty _ => cases r; rfl
theorem RelV.inj {x y : V} {u : Value} (r : RelV x u) (q : RelV y u) : x = y := Option.some.inj (r.abs.symm.trans q.abs)
theorem Vals.inj : ∀ {xs ys : List V} {us : List Value}, Vals xs us -> Vals ys us -> xs = ys
  | _, _, _, .nil, .nil => rfl
  | _, _, _, .cons r t, .cons r' t' => by rw [r.inj r', Vals.inj t t']
section
variable {X : Cx} {pins : List (Addr × Obj)} {σ : St} {H : Hp} {s : Shared} {a : Addr} {xs ys : List V}
theorem SqL.of {K : PySem.W.Frag} (h : H a = some (.lst xs)) : SqL K H a xs := .inl (.inl h)
theorem SqT.of {K : PySem.W.Frag} (h : H a = some (.tup xs)) : SqT K H a xs := .inl (.inl h)
theorem Inv.list (I : Inv X pins σ H s) (h : SqL X.K H a xs) : ∃ its : List Value, Vals xs its /\ PlainL s.heap a its.toArray /\ xs.length <= sizeLine := by
  rcases h with h | ⟨o, its, n, hk, hc, hd, hs, hz, r⟩
  · obtain ⟨z, its, n, r, e⟩ := h.ok I.hok
    exact ⟨its, r, ⟨_, n, e, rfl, rfl, rfl⟩, z⟩
  · refine ⟨its.toList, r, ⟨o, n, I.kIn a o hk, hc, hd, by simpa using hs⟩, ?_⟩
    have e := r.length
    simp only [Array.length_toList] at e
    omega
theorem Inv.tuple (I : Inv X pins σ H s) (h : SqT X.K H a xs) : ∃ its : List Value, Vals xs its /\ IsTup s.heap a its.toArray /\ xs.length <= sizeLine := by
  rcases h with h | ⟨o, its, n, hk, hc, hs, hz, r⟩
  · obtain ⟨z, its, r, p⟩ := h.ok I.hok
    exact ⟨its, r, p.tup, z⟩
  · refine ⟨its.toList, r, ⟨o, I.kIn a o hk, hc, n, by simpa using hs⟩, ?_⟩
    have e := r.length
    simp only [Array.length_toList] at e
    omega
theorem Inv.jk (I : Inv X pins σ H s) (h : SqL X.K H a xs) (h' : SqL X.K H a ys) : xs = ys := by
  obtain ⟨its, r, ⟨o, n, e, _, _, d⟩, _⟩ := I.list h
  obtain ⟨its', r', ⟨o', n', e', _, _, d'⟩, _⟩ := I.list h'
  rw [e] at e'; cases e'
  rw [d] at d'
  injection d' with d1 _
  have : its = its' := by simpa using congrArg Array.toList d1
  subst this
  exact r.inj r'
theorem Inv.gP (I : Inv X pins σ H s) (h : SqT X.K H a xs) (h' : SqT X.K H a ys) : xs = ys := by
  obtain ⟨its, r, ⟨o, e, _, n, d⟩, _⟩ := I.tuple h
  obtain ⟨its', r', ⟨o', e', _, n', d'⟩, _⟩ := I.tuple h'
  rw [e] at e'; cases e'
  rw [d] at d'
  injection d' with d1 _
  have : its = its' := by simpa using congrArg Array.toList d1
  subst this
  exact r.inj r'
end
noncomputable abbrev Cx.qJ (X : Cx) (E : Value -> Shared -> Prop) : Cx := { X with xe := E }
noncomputable abbrev Cx.nox (X : Cx) : Cx := X.qJ fun _ _ => False
theorem Cx.Ok.qJ {X : Cx} (ok : X.Ok) (E : Value -> Shared -> Prop) : (X.qJ E).Ok :=
  ⟨ok.mod, ok.kind, ok.glob, ok.blt, ok.above, ok.inj, ok.has, ok.cab, ok.hd, ok.frames, ok.stk, ok.exf, ok.bs, ok.bsz, ok.vB, ok.BI, ok.qd, ok.frf⟩
theorem Cx.Ok.jA {X : Cx} {E : Value -> Shared -> Prop} (ok : (X.qJ E).Ok) : X.Ok :=
  ⟨ok.mod, ok.kind, ok.glob, ok.blt, ok.above, ok.inj, ok.has, ok.cab, ok.hd, ok.frames, ok.stk, ok.exf, ok.bs, ok.bsz, ok.vB, ok.BI, ok.qd, ok.frf⟩
section
variable {X : Cx} {pins : List (Addr × Obj)} {σ : St} {H : Hp} {s : Shared} {E : Value -> Shared -> Prop}
theorem Inv.qJ (I : Inv X pins σ H s) (E : Value -> Shared -> Prop) : Inv (X.qJ E) pins σ H s := ⟨I.ok.qJ E, I.os, I.bare, I.base, I.loc, I.cell, I.free, I.iS, I.pin, I.hok, I.len⟩
theorem Inv.jA (I : Inv (X.qJ E) pins σ H s) : Inv X pins σ H s := ⟨I.ok.jA, I.os, I.bare, I.base, I.loc, I.cell, I.free, I.iS, I.pin, I.hok, I.len⟩
theorem SP.jA {D : Ends} {f : Flow} {s' : Shared} (h : SP (X.qJ E) pins D f s') : SP X pins D f s' := by
  cases f with
  | next => obtain ⟨σ', H', I, q⟩ := h; exact ⟨σ', H', I.jA, q⟩
  | brk => obtain ⟨σ', H', I, q⟩ := h; exact ⟨σ', H', I.jA, q⟩
  | cont => obtain ⟨σ', H', I, q⟩ := h; exact ⟨σ', H', I.jA, q⟩
  | ret u => obtain ⟨v, σ', H', I, r, q⟩ := h; exact ⟨v, σ', H', I.jA, r, q⟩
theorem PSs.nox {st : List Stmt} {t : TS} (h : PSs X.nox st t) : PSs X st t := fun pins s σ H D I hw =>
  wpAny_mono (h pins s σ H D (I.qJ _) hw) (fun _ _ q => q.jA) fun _ _ z => False.elim z
end
section
variable {X : Cx} {st : Stmt} {rest : List Stmt} {t u : TS} {e : Expr} {te : TE} {pos : Pos}
noncomputable def FX : TS := fun D σ H => D.nx σ H
noncomputable def HG (t u : TS) : TS := fun D σ H => t { D with nx := u D } σ H
theorem Cz : PSs X [] FX := fun _ _ σ H _ I h => wpAny_execs_nil ⟨σ, H, I, h⟩
theorem zR (h1 : PS X st t) (h2 : PSs X rest u) : PSs X (st :: rest) (HG t u) := by
  intro pins s σ H D I h
  refine wpAny_execs_cons (thn (h1 pins s σ H { D with nx := u D } I h) fun f s1 q => ?_)
  cases f with
  | next =>
    obtain ⟨σ', H', I', q⟩ := q
    exact h2 pins s1 σ' H' D I' q
  | ret v => exact q
  | brk => exact q
  | cont => exact q
theorem BV (h1 : PS X st t) : PSs X [st] t := by
  intro pins s σ H D I h
  refine wpAny_execs_cons (thn (h1 pins s σ H D I h) fun f s1 q => ?_)
  cases f with
  | next => exact wpAny_execs_nil q
  | ret v => exact q
  | brk => exact q
  | cont => exact q
theorem Inv.quiet {pins : List (Addr × Obj)} {σ : St} {H : Hp} {s : Shared} (I : Inv X pins σ H s) : interactive X.env = false := by simp [interactive, I.ok.kind]
noncomputable def GZ (te : TE) : TS := fun D σ H => te σ H fun _ H1 => D.nx σ H1
theorem BZ (he : PE X e te) (hs : swapsWith e none pos.line X.env = pure false := by rfl) : PS X (.Expr e pos) (GZ te) := by
  intro pins s σ H D I h
  exact wpAny_Expr_any (thn (he pins s σ H _ I h) fun v s1 ⟨x, H1, I1, r1, q1⟩ => ⟨σ, H1, I1, q1⟩) I.quiet hs
noncomputable def IT (te : TE) : TS := fun D σ H => te σ H D.rt
theorem Fw (he : PE X e te) : PS X (.Return (some e) pos) (IT te) := by
  intro pins s σ H D I h
  exact wpAny_Return_some (thn (he pins s σ H _ I h) fun v s1 ⟨x, H1, I1, r1, q1⟩ => ⟨x, σ, H1, I1, r1, q1⟩)
noncomputable def IY (c : TT) (t u : TS) : TS := fun D σ H => c σ H fun b H1 => if b = true then t D σ H1 else u D σ H1
theorem GX {c : Expr} {a b : List Stmt} {tc : TT} (hc : PT X c tc) (ha : PSs X a t) (hb : PSs X b u) : PS X (.If c a b pos) (IY tc t u) := by
  intro pins s σ H D I h
  refine wpAny_If (thn (hc pins s σ H _ I h) fun d s1 ⟨H1, I1, q1⟩ => ?_)
  cases d with
  | true => exact ha pins s1 σ H1 D I1 q1
  | false => exact hb pins s1 σ H1 D I1 q1
noncomputable def EL : TS := fun _ _ _ => False
theorem pL : PS X st EL := fun _ _ _ _ _ _ h => h.elim
end
noncomputable abbrev TG := V -> St -> Hp -> (St -> Hp -> Prop) -> Prop
noncomputable abbrev TGs := List V -> St -> Hp -> (St -> Hp -> Prop) -> Prop
noncomputable def PG (X : Cx) (target : Expr) (t : TG) : Prop :=
  ∀ (pins : List (Addr × Obj)) (s : Shared) (σ : St) (H : Hp) (v : V) (u : Value) (Q : St -> Hp -> Prop), Inv X pins σ H s -> RelV v u -> t v σ H Q →
    wpAny (model X.prog X.w) X.A (assign target X.env u) (fun _ s' => ∃ σ' H', Inv X pins σ' H' s' /\ Q σ' H') X.xe s
noncomputable def PGs (X : Cx) (ts : List Expr) (t : TGs) : Prop :=
  ∀ (pins : List (Addr × Obj)) (s : Shared) (σ : St) (H : Hp) (vs : List V) (us : List Value) (Q : St -> Hp -> Prop), Inv X pins σ H s -> Vals vs us -> t vs σ H Q →
    wpAny (model X.prog X.w) X.A (assignInOrder ((assignEach ts X.env).map (·.2)) us) (fun _ s' => ∃ σ' H', Inv X pins σ' H' s' /\ Q σ' H') X.xe s
noncomputable abbrev wC := V -> V -> V -> Hp -> (Hp -> Prop) -> Prop
noncomputable def Dt (X : Cx) (t : wC) : Prop :=
  ∀ (pins : List (Addr × Obj)) (s : Shared) (σ : St) (H : Hp) (o i v : V) (ov iv u : Value) (Q : Hp -> Prop), Inv X pins σ H s -> RelV o ov -> RelV i iv -> RelV v u -> t o i v H Q →
    wpAny (model X.prog X.w) X.A (setItem ov iv u) (fun _ s' => ∃ H', Inv X pins σ H' s' /\ Q H') X.xe s
noncomputable abbrev TIp := V -> V -> Hp -> VK -> Prop
noncomputable def PIp (X : Cx) (op : Operator) (t : TIp) : Prop :=
  ∀ (pins : List (Addr × Obj)) (s : Shared) (σ : St) (H : Hp) (x y : V) (v u : Value) (Q : VK), Inv X pins σ H s -> RelV x v -> RelV y u -> t x y H Q →
    wpAny (model X.prog X.w) X.A (inplaceOp op v u) (EP X pins σ Q) X.xe s
section
variable {X : Cx} {pos : Pos}
noncomputable def eA (i : Nat) : TG := fun v σ H Q => Q (σ.set i (some v)) H
theorem bw {i : Nat} {x : Str} (hN : X.N.Nodup) (hi : X.N[i]? = some x) (hx : Loc X.env.scope x) (hf : X.fn x = true \/ X.env.scope.names.lookup x = some .local := by first | exact .inl rfl | exact .inr rfl | assumption) : PG X (.Name x pos) (eA i) := by
  intro pins s σ H v u Q I r h
  exact wpAny_assign_Name (gY I hN hi hx r (fun s' I' => ⟨_, H, I', h⟩) hf)
noncomputable def zy : TGs := fun vs σ H Q => vs = [] /\ Q σ H
noncomputable def lD (t : TG) (u : TGs) : TGs := fun vs σ H Q => ∃ v r, vs = v :: r /\ t v σ H fun σ' H' => u r σ' H' Q
theorem jK : PGs X [] zy := by
  intro pins s σ H vs us Q I r h
  obtain ⟨e, h⟩ := h
  subst e
  cases r
  exact assignInOrder_nil ⟨σ, H, I, h⟩
theorem cZ {e : Expr} {es : List Expr} {t : TG} {u : TGs} (h1 : PG X e t) (h2 : PGs X es u)
    (hs : (assignEach (e :: es) X.env).map (·.2) = assign e X.env :: (assignEach es X.env).map (·.2) := by rfl) : PGs X (e :: es) (lD t u) := by
  intro pins s σ H vs us Q I r h
  obtain ⟨v, vr, e1, h⟩ := h
  subst e1
  cases r with
  | cons r rr =>
    rw [hs]
    refine assignInOrder_cons (thn (h1 pins s σ H _ _ _ I r h) fun _ s1 ⟨σ1, H1, I1, q1⟩ => ?_)
    exact h2 pins s1 σ1 H1 _ _ Q I1 rr q1
noncomputable def Aw (K : PySem.W.Frag) (n : Nat) (t : TGs) : TG := fun v σ H Q => ∃ a xs, v = .ref a /\ SqT K H a xs /\ xs.length = n /\ t xs σ H Q
theorem mD {es : List Expr} {k : Nat} {t : TGs} {n : Nat} (hc : X.calm = true) (h : PGs X es t)
    (hn : (assignEach es X.env).length = n := by rfl) (hst : (assignEach es X.env).findIdx? (·.1) = none := by rfl) : PG X (.Tuple es k pos) (Aw X.K n t) := by
  intro pins s σ H v u Q I r hw
  obtain ⟨a, xs, e1, hq, hl, hw⟩ := hw
  subst e1
  cases r
  obtain ⟨its, rv, ht, hz⟩ := I.tuple hq
  refine assign_Tuple_tuple (I.ok.hd hc) ht (by simp [hn, <- hl, rv.length]) hst fun h' hx => ?_
  have I1 : Inv X pins σ H { s with heap := h' } := I.kept (t' := s.toks) fun b o e => hx b o (Nat.ne_of_lt (Heap.lt_size e)) e
  exact h pins _ σ H xs _ Q I1 (by simpa using rv) hw
noncomputable def Iu (to ti : TE) (t : wC) : TG := fun v σ H Q => to σ H fun o H1 => ti σ H1 fun i H2 => t o i v H2 fun H3 => Q σ H3
theorem Ej {o i : Expr} {to ti : TE} {t : wC} (ho : PE X o to) (hi : PE X i ti) (hs : Dt X t)
    (ha : ∀ v, assign (.Subscript o i pos) X.env v = (do
      let ov ← holding [v] (eval o X.env)
      let iv ← holding [v, ov] (eval i X.env)
      standAt pos
      holding [v, ov, iv] (setItem ov iv v)
      release [v, ov, iv] []) := by intro _; rfl) : PG X (.Subscript o i pos) (Iu to ti t) := by
  intro pins s σ H v u Q I r h
  rw [ha]
  refine wpAny_bind (wpAny_holding (thn (ho pins s σ H _ I h) fun ov s1 ⟨x, H1, I1, r1, q1⟩ => ?_))
  refine wpAny_bind (wpAny_holding (thn (hi pins s1 σ H1 _ I1 q1) fun iv s2 ⟨y, H2, I2, r2, q2⟩ => ?_))
  refine wpAny_bind (wpAny_standAt (wpAny_bind (wpAny_holding (thn (hs pins s2 σ H2 x y v ov iv u _ I2 r1 r2 r q2) fun _ s3 ⟨H3, I3, q3⟩ => ?_))))
  exact wpAny_release ⟨σ, H3, I3, q3⟩
noncomputable def Ed (te : TE) (g : TG) : TS := fun D σ H => te σ H fun x H1 => g x σ H1 D.nx
theorem AZ {tg e : Expr} {te : TE} {g : TG} (he : PE X e te) (hg : PG X tg g) (hs : swapsWithSole [tg] e pos.line X.env = pure false := by rfl) (hw : swappedStores [tg] e X.env = pure none := by rfl)
    (h1 : (assignEach [tg] X.env).map (·.2) = [assign tg X.env] := by rfl) : PS X (.Assign [tg] e pos) (Ed te g) := by
  intro pins s σ H D I h
  refine wpAny_Assign_stores (thn (he pins s σ H _ I h) fun v s1 ⟨x, H1, I1, r1, q1⟩ => ?_) hs hw
  rw [h1]
  exact thn (hg pins s1 σ H1 x v _ I1 r1 q1) fun _ s2 q => q
theorem D6 {i : Nat} {x : Str} {e : Expr} {te : TE} {pos' : Pos} (hN : X.N.Nodup) (hi : X.N[i]? = some x) (hx : Loc X.env.scope x) (he : PE X e te) (hs : swapsWith e (some (.Name x pos')) pos.line X.env = pure false := by rfl) (hf : X.fn x = true \/ X.env.scope.names.lookup x = some .local := by first | exact .inl rfl | exact .inr rfl | assumption) :
    PS X (.Assign [.Name x pos'] e pos) (Ed te (eA i)) := by
  intro pins s σ H D I h
  refine wpAny_Assign_Name (thn (he pins s σ H _ I h) fun v s1 ⟨y, H1, I1, r1, q1⟩ => ?_) hs
  exact gY I1 hN hi hx r1 (fun s2 I2 => ⟨_, H1, I2, q1⟩) hf
noncomputable def H0 (i j : Nat) (ta : TA) : TS := fun D σ H => ta σ H fun vs H1 => ∃ v w, vs = [v, w] /\ D.nx ((σ.set i (some v)).set j (some w)) H1
theorem Ek {i j : Nat} {x y : Str} {a b : Expr} {ta : TA} {px py pt : Pos} {kt k2 pt2} (hc : X.calm = true) (hN : X.N.Nodup) (hi : X.N[i]? = some x) (hj : X.N[j]? = some y) (hij : i ≠ j)
    (hx : X.env.scope.names.lookup x = some .local) (hy : X.env.scope.names.lookup y = some .local) (ha : PA X [a, b] ta)
    (hw : swappedStores [.Tuple [.Name x px, .Name y py] kt pt] (.Tuple [a, b] k2 pt2) X.env = pure (some [x, y]))
    (hs : swapsWithSole [.Tuple [.Name x px, .Name y py] kt pt] (.Tuple [a, b] k2 pt2) pos.line X.env = pure false := by rfl) :
    PS X (.Assign [.Tuple [.Name x px, .Name y py] kt pt] (.Tuple [a, b] k2 pt2) pos) (H0 i j ta) := by
  intro pins s σ H D I h
  rw [exec_Assign_arm]
  refine wpAny_bind (wpAny_standAt ?_)
  rw [hs]
  refine wpAny_bind (wpAny_pure ?_)
  rw [if_neg (by decide)]
  refine wpAny_bind (Tuple_ (thn (ha _ pins s σ H _ I h) fun us s1 ⟨vs, H1, I1, r1, q1⟩ => ?_))
  obtain ⟨v, w, e1, q1⟩ := q1
  subst e1
  obtain ⟨u1, u2, rfl, rv, rw'⟩ : ∃ u1 u2, us = [u1, u2] /\ RelV v u1 /\ RelV w u2 := by
    cases r1 with
    | cons p q =>
      cases q with
      | cons p' q' =>
        cases q'
        exact ⟨_, _, rfl, p, p'⟩
  refine wpAny_newObj_type ?_ (by show 2 <= sizeLine; decide)
  have I2 : Inv X pins σ H1 { s1 with heap := s1.heap.push { cls := .type "tuple", data := .seq [u1, u2].toArray } } := I1.kept (t' := s1.toks) fun b o e => Heap.get?_push_of_some _ e
  rw [hw]
  refine wpAny_bind (wpAny_pure ?_)
  show wpAny (model X.prog X.w) X.A (do rule "assign.swapped-stores"; let items ← unpackItems (.ref s1.heap.objs.size) 2 none; assignInOrder [fun v => bindName X.env y v, fun v => bindName X.env x v] items.reverse; pure Flow.next) _ _ _
  refine wpAny_bind (wpAny_rule (wpAny_bind (unpackItems_tuple (items := #[u1, u2]) (I.ok.hd hc) (IsTup.new s1.heap _) fun h' hx' => ?_)))
  have I3 := I2.kept (h' := h') (t' := s1.toks) fun b o e => hx' b o (Nat.ne_of_lt (Heap.lt_size e)) e
  show wpAny _ _ (assignInOrder [fun v => bindName X.env y v, fun v => bindName X.env x v] [u2, u1] >>= fun _ => pure Flow.next) _ _ _
  refine wpAny_bind (assignInOrder_cons (wpAny_bindName (gY I3 hN hj (.inl hy) rw' (fun s2 I4 => ?_) (.inr hy))))
  refine assignInOrder_cons (wpAny_bindName (gY I4 hN hi (.inl hx) rv (fun s3 I5 => assignInOrder_nil (wpAny_pure ?_)) (.inr hx)))
  rw [List.set_comm _ _ (Ne.symm hij)] at I5
  exact ⟨_, H1, I5, q1⟩
noncomputable def Hc (to ti te : TE) (tget : V -> V -> Hp -> VK -> Prop) (tip : TIp) (tset : wC) : TS := fun D σ H => to σ H fun o H1 => ti σ H1 fun i H2 => tget o i H2 fun x H3 => te σ H3 fun y H4 => tip x y H4 fun z H5 => tset o i z H5 fun H6 => D.nx σ H6
noncomputable def GA (X : Cx) (t : V -> V -> Hp -> VK -> Prop) : Prop :=
  ∀ (pins : List (Addr × Obj)) (s : Shared) (σ : St) (H : Hp) (o i : V) (ov iv : Value) (Q : VK), Inv X pins σ H s -> RelV o ov -> RelV i iv -> t o i H Q →
    wpAny (model X.prog X.w) X.A (getItem ov iv) (EP X pins σ Q) X.xe s
theorem Dh {o i e : Expr} {to ti te : TE} {tget : V -> V -> Hp -> VK -> Prop} {tip : TIp} {tset : wC} {op : Operator} {tpos : Pos} (ho : PE X o to) (hi : PE X i ti) (hg : GA X tget) (he : PE X e te) (hp : PIp X op tip) (hs : Dt X tset)
    (ha : ∀ ov iv new, augStore i ov iv new = (do holding [new, ov, iv] (setItem ov iv new); release [new, ov, iv] []; pure .next) := by intros; rfl) : PS X (.AugAssign (.Subscript o i tpos) op e pos) (Hc to ti te tget tip tset) := by
  intro pins s σ H D I h
  refine wpAny_AugAssign_SubscriptAny (thn (ho pins s σ H _ I h) fun ov s1 ⟨x1, H1, I1, r1, q1⟩ => ?_) ha
  refine thn (hi pins s1 σ H1 _ I1 q1) fun iv s2 ⟨x2, H2, I2, r2, q2⟩ => ?_
  refine thn (hg pins s2 σ H2 x1 x2 ov iv _ I2 r1 r2 q2) fun old s3 ⟨x3, H3, I3, r3, q3⟩ => ?_
  refine thn (he pins s3 σ H3 _ I3 q3) fun v s4 ⟨x4, H4, I4, r4, q4⟩ => ?_
  refine thn (hp pins s4 σ H4 x3 x4 old v _ I4 r3 r4 q4) fun new s5 ⟨x5, H5, I5, r5, q5⟩ => ?_
  exact thn (hs pins s5 σ H5 x1 x2 x5 ov iv new _ I5 r1 r2 r5 q5) fun _ s6 ⟨H6, I6, q6⟩ => ⟨σ, H6, I6, q6⟩
noncomputable def ipI (f : Int -> Int -> Int) : TIp := fun x y H Q => ∃ i j, x = .int i /\ y = .int j /\ Q (.int (f i j)) H
theorem Ez : PIp X .Add (ipI fun i j => i + j) := by
  intro pins s σ H x y v u Q I r1 r2 h
  obtain ⟨i, j, e1, e2, q⟩ := h
  subst e1; subst e2
  obtain ⟨t, rfl⟩ := r1
  obtain ⟨t', rfl⟩ := r2
  exact iadd_int ⟨.int _, H, I.tok _, ⟨_, rfl⟩, q⟩
end
section
variable {X : Cx} {pos : Pos}
noncomputable def EY (c : TT) (tb : TS) : TS := fun D σ H => ∃ W : Nat -> St -> Hp -> Prop, (∃ m, W m σ H) /\ ∀ m σ H, W m σ H →
  c σ H fun b H1 => if b = true then ∃ N : St -> Hp -> Prop, (∀ σ' H', N σ' H' -> ∃ m', m' < m /\ W m' σ' H') /\ tb { D with nx := N, ct := N, bk := D.nx } σ H1 else D.nx σ H1
theorem A6 {c : Expr} {body : List Stmt} {tc : TT} {tb : TS} (hp : PassesOwn (model X.prog X.w) X.A X.env X.xe) (hc : PT X c tc) (hb : PSs X body tb) : PS X (.While c body [] pos) (EY tc tb) := by
  intro pins s σ H D I h
  obtain ⟨W, ⟨m0, w0⟩, turn⟩ := h
  refine wpAny_While (codeAny_whileLoop (fun n s' => ∃ σ' H', Inv X pins σ' H' s' /\ W n σ' H') ?_ m0 ⟨σ, H, I, w0⟩)
  rintro n s1 ⟨σ1, H1, I1, w1⟩
  refine wpAny_passesOwn hp (thn (hc pins s1 σ1 H1 _ I1 (turn n σ1 H1 w1)) fun b s2 ⟨H2, I2, q2⟩ => ?_)
  cases b with
  | true =>
    obtain ⟨N, hN, q2⟩ := q2
    rw [if_pos rfl]
    refine wpAny_passesOwn hp (thn (hb pins s2 σ1 H2 _ I2 q2) fun f s3 q3 => ?_)
    cases f with
    | next =>
      obtain ⟨σ3, H3, I3, n3⟩ := q3
      obtain ⟨m', hm, w3⟩ := hN σ3 H3 n3
      exact ⟨m', hm, σ3, H3, I3, w3⟩
    | cont =>
      obtain ⟨σ3, H3, I3, n3⟩ := q3
      obtain ⟨m', hm, w3⟩ := hN σ3 H3 n3
      exact ⟨m', hm, σ3, H3, I3, w3⟩
    | brk => exact q3
    | ret v => exact q3
  | false =>
    rw [if_neg Bool.false_ne_true]
    exact wpAny_execs_nil ⟨σ1, H2, I2, q2⟩
end
structure It where
  go : Nat -> Hp -> Prop
  yld : Nat -> Hp -> V -> Hp -> Prop
  stop : Nat -> Hp -> Prop
noncomputable def kZ (X : Cx) (pins : List (Addr × Obj)) (H : Hp) (b : Addr) : Prop :=
  H b = none /\ b ≠ X.env.locals /\ b ∉ X.fs /\ (b ∈ X.ex \/ X.ay.heap.objs.size <= b) /\ (∀ x c, X.env.cells.lookup x = some c -> c ≠ b) /\ ∀ p ∈ X.pn ++ pins, p.1 ≠ b
theorem Inv.ya {X : Cx} {pins : List (Addr × Obj)} {σ : St} {H H' : Hp} {s : Shared} {b : Addr} (I : Inv X pins σ H s) (hb : s.heap.objs.size <= b) (hn : H' b = none) : kZ X pins H' b := by
  refine ⟨hn, Nat.ne_of_gt (Nat.lt_of_lt_of_le I.lt hb), I.FL hb, .inr (Nat.le_trans I.sz hb), fun x c e z => ?_, fun p hp z => ?_⟩
  · obtain ⟨v, q⟩ := I.cell x c e
    exact absurd (Nat.lt_of_lt_of_le q.lt (by rw [z]; exact hb)) (Nat.lt_irrefl _)
  · exact absurd (Nat.lt_of_lt_of_le (Heap.lt_size (I.pin p hp).1) (by rw [z]; exact hb)) (Nat.lt_irrefl _)
structure Turn (P : Program) (w : World) (K : PySem.W.Frag) (tg : Expr) (J : It) (fp : List Addr) (it : Addr) (tn : Nat -> Heap -> Prop) : Prop where
  mem : it ∈ fp
  obj : ∀ i h, tn i h -> ∀ b ∈ fp, ∃ o, h.get? b = some o /\ ∀ v, o.data ≠ .cell v
  keep : ∀ i h h', tn i h -> (∀ b ∈ fp, ∀ o, h.get? b = some o -> h'.get? b = some o) -> tn i h'
  item : ∀ (X : Cx), X.prog = P -> X.w = w -> X.K = K -> X.calm = true -> ∀ (i : Nat) (pins : List (Addr × Obj)) (s : Shared) (σ : St) (H : Hp) (E : Value -> Shared -> Prop), Inv X pins σ H s -> (∀ b ∈ fp, kZ X pins H b) -> tn i s.heap -> J.go i H →
    wpAny (model P w) X.A (pyNext (.ref it)) (fun r s1 => ∃ u, r = some u ∧
      wpAny (model P w) X.A (letOwnedTupleGo tg (.ref it) u) (fun _ s2 => ∃ x H', Inv X pins σ H' s2 /\ RelV x u /\ J.yld i H x H' /\ tn (i + 1) s2.heap /\ ∀ b ∈ fp, H' b = none) E s1) E s
  done : ∀ (X : Cx), X.prog = P -> X.w = w -> X.K = K -> X.calm = true -> ∀ (i : Nat) (pins : List (Addr × Obj)) (s : Shared) (σ : St) (H : Hp) (E : Value -> Shared -> Prop), Inv X pins σ H s -> (∀ b ∈ fp, kZ X pins H b) -> tn i s.heap -> J.stop i H →
    wpAny (model P w) X.A (pyNext (.ref it)) (fun r s1 => r = none /\ Inv X pins σ H s1) E s
  self : ∀ (A : Around) (i : Nat) (s : Shared) (Q : Value -> Shared -> Prop) (E : Value -> Shared -> Prop), tn i s.heap -> Q (.ref it) s -> wpAny (model P w) A (pyIter (.ref it)) Q E s
noncomputable abbrev TI := St -> Hp -> (It -> Hp -> Prop) -> Prop
noncomputable def PIE (X : Cx) (pins : List (Addr × Obj)) (σ : St) (tg : Expr) (R : It -> Hp -> Prop) (itv : Value) (s2 : Shared) : Prop :=
  ∃ (it : Addr) (fp : List Addr) (tn : Nat -> Heap -> Prop) (J : It) (H' : Hp), itv = .ref it /\ Inv X pins σ H' s2 /\ Turn X.prog X.w X.K tg J fp it tn /\ tn 0 s2.heap /\ (∀ b ∈ fp, kZ X pins H' b) /\ R J H'
noncomputable def PI (X : Cx) (tg iter : Expr) (wi : TI) : Prop :=
  ∀ (pins : List (Addr × Obj)) (s : Shared) (σ : St) (H : Hp) (R : It -> Hp -> Prop), Inv X pins σ H s -> wi σ H R →
    wpAny (model X.prog X.w) X.A (eval iter X.env) (fun v s1 => wpAny (model X.prog X.w) X.A (pyIter v) (PIE X pins σ tg R) X.xe s1) X.xe s
theorem xh {M : Model} {A : Around} {E : Value -> Shared -> Prop} {s : Shared} {tg : Expr} {it : Addr} {u : Value} {o : Obj} {n : String} {vs : Array Value} {Q : Unit -> Shared -> Prop} (ho : s.heap.get? it = some o) (hc : o.cls = .type n) (hd : o.data = .fields vs)
    (hn : ["enumerate", "zip", "dict_itemiterator", "dict_reverseitemiterator", "odict_iterator", "itertools.zip_longest", "itertools.pairwise"].contains n = false) (hQ : Q () s) : wpAny M A (letOwnedTupleGo tg (.ref it) u) Q E s := by
  unfold letOwnedTupleGo
  cases tg <;> first
    | exact wpAny_pure hQ
    | (cases u <;> first
        | exact wpAny_pure hQ
        | (refine wpAny_bind (wpAny_load ho ?_)
           rw [hc, hd]
           show wpAny M A (if (["enumerate", "zip", "dict_itemiterator", "dict_reverseitemiterator", "odict_iterator", "itertools.zip_longest", "itertools.pairwise"].contains n && vs[0]? == some (rawInt _)) = true then _ else _) Q E s
           rw [if_neg (by intro h; rw [hn, Bool.false_and] at h; cases h)]
           exact wpAny_pure hQ))
noncomputable def Itl (K : PySem.W.Frag) (a : Addr) : It :=
  ⟨fun i H => ∃ xs x, SqL K H a xs /\ xs[i]? = some x, fun i H x H' => H' = H /\ ∀ xs, SqL K H a xs -> xs[i]? = some x, fun i H => ∃ xs, SqL K H a xs /\ xs.length <= i⟩
noncomputable def Itt (K : PySem.W.Frag) (a : Addr) : It :=
  ⟨fun i H => ∃ xs x, SqT K H a xs /\ xs[i]? = some x, fun i H x H' => H' = H /\ ∀ xs, SqT K H a xs -> xs[i]? = some x, fun i H => ∃ xs, SqT K H a xs /\ xs.length <= i⟩
noncomputable def Itr (lo : Int) (n : Nat) : It := ⟨fun i _ => i < n, fun i H x H' => H' = H /\ x = .int (lo + i), fun i _ => n <= i⟩
theorem yI {P : Program} {w : World} {K : PySem.W.Frag} {tg : Expr} (a it : Addr) : Turn P w K tg (Itl K a) [it] it (fun i h => h.IsListIter it a i) where
  mem := by simp
  obj := fun i h st b hb => by
    have e : b = it := by simpa using hb
    subst e
    obtain ⟨o, e, c, d⟩ := st
    exact ⟨o, e, fun v z => by rw [d] at z; cases z⟩
  keep := fun i h h' st k => st.at fun o e => k it (by simp) o e
  item := by
    intro X hP hw hK hc i pins s σ H E I hf st hg
    subst hP hw hK
    obtain ⟨xs, x, hq, hx⟩ := hg
    obtain ⟨its, rv, p, hz⟩ := I.list hq
    obtain ⟨u, hu, ru⟩ := rv.get hx
    obtain ⟨f0, f1, f2, f3, f4, f5⟩ := hf it (by simp)
    refine wpAny_pyNext_list_item st p.isList (x := u) (by simpa using hu) fun h' st' sb => ?_
    have I1 : Inv X pins σ H { s with heap := h' } := I.turned (t' := s.toks) (fun b o hb e => (sb.2 b hb).trans e) f0 f1 f3 f4 f5
    obtain ⟨o, e, c, d⟩ := id st'
    exact ⟨u, rfl, xh (s := { s with heap := h' }) e c d (by decide) ⟨x, H, I1, ru, ⟨rfl, fun ys hy => by rw [I.jk hy hq]; exact hx⟩, st', fun b hb => (hf b hb).1⟩⟩
  done := by
    intro X hP hw hK hc i pins s σ H E I hf st hg
    subst hP hw hK
    obtain ⟨xs, hq, hx⟩ := hg
    obtain ⟨its, rv, p, hz⟩ := I.list hq
    obtain ⟨f0, f1, f2, f3, f4, f5⟩ := hf it (by simp)
    have hl := rv.length
    exact wpAny_pyNext_list_end (I.ok.hd hc) st p.isList (by simp; omega) fun h' eb => ⟨rfl, I.turned (t' := s.toks) (fun b o hb e => eb b o hb e) f0 f1 f3 f4 f5⟩
  self := fun _ _ _ _ _ st h => wpAny_pyIter_listiter st h
theorem vI {P : Program} {w : World} {K : PySem.W.Frag} {tg : Expr} (a it : Addr) : Turn P w K tg (Itt K a) [it] it (fun i h => h.IsTupleIter it a i) where
  mem := by simp
  obj := fun i h st b hb => by
    have e : b = it := by simpa using hb
    subst e
    obtain ⟨o, e, c, d⟩ := st
    exact ⟨o, e, fun v z => by rw [d] at z; cases z⟩
  keep := fun i h h' st k => st.at fun o e => k it (by simp) o e
  item := by
    intro X hP hw hK hc i pins s σ H E I hf st hg
    subst hP hw hK
    obtain ⟨xs, x, hq, hx⟩ := hg
    obtain ⟨its, rv, p, hz⟩ := I.tuple hq
    obtain ⟨u, hu, ru⟩ := rv.get hx
    obtain ⟨f0, f1, f2, f3, f4, f5⟩ := hf it (by simp)
    refine wpAny_pyNext_tuple_item st (show s.heap.IsTuple a its.toArray from p) (x := u) (by simpa using hu) fun h' st' sb => ?_
    have I1 : Inv X pins σ H { s with heap := h' } := I.turned (t' := s.toks) (fun b o hb e => (sb.2 b hb).trans e) f0 f1 f3 f4 f5
    obtain ⟨o, e, c, d⟩ := id st'
    exact ⟨u, rfl, xh (s := { s with heap := h' }) e c d (by decide) ⟨x, H, I1, ru, ⟨rfl, fun ys hy => by rw [I.gP hy hq]; exact hx⟩, st', fun b hb => (hf b hb).1⟩⟩
  done := by
    intro X hP hw hK hc i pins s σ H E I hf st hg
    subst hP hw hK
    obtain ⟨xs, hq, hx⟩ := hg
    obtain ⟨its, rv, p, hz⟩ := I.tuple hq
    obtain ⟨f0, f1, f2, f3, f4, f5⟩ := hf it (by simp)
    have hl := rv.length
    exact wpAny_pyNext_tuple_end (I.ok.hd hc) st (show s.heap.IsTuple a its.toArray from p) (by simp; omega) fun h' eb => ⟨rfl, I.turned (t' := s.toks) (fun b o hb e => eb b o hb e) f0 f1 f3 f4 f5⟩
  self := fun _ _ _ _ _ st h => wpAny_pyIter_tupleiter st h
theorem vD {P : Program} {w : World} {K : PySem.W.Frag} {tg : Expr} (it : Addr) (lo : Int) (n : Nat) : Turn P w K tg (Itr lo n) [it] it (fun i h => IsRangeIter h it (lo + (i : Nat) * 1) ((n : Int) - (i : Nat)) 1) where
  mem := by simp
  obj := fun i h st b hb => by
    have e : b = it := by simpa using hb
    subst e
    exact ⟨_, st, fun v z => by
      have z' : Data.fields _ = Data.cell v := z
      cases z'⟩
  keep := fun i h h' st k => k it (by simp) _ st
  item := by
    intro X hP hw hK hc i pins s σ H E I hf st hg
    subst hP hw hK
    obtain ⟨f0, f1, f2, f3, f4, f5⟩ := hf it (by simp)
    have W := Walks.range (prog := X.prog) (w := X.w) (I.ok.hd hc) it lo 1 n
    refine W.item i s _ _ hg st fun v h' tk hv st' kk => ?_
    obtain ⟨t, rfl⟩ := hv
    have I1 : Inv X pins σ H { s with heap := h', toks := tk } := I.turned (fun b o hb e => kk b o (by simpa using hb) e) f0 f1 f3 f4 f5
    refine ⟨_, rfl, xh (s := { s with heap := h', toks := tk }) (n := "range_iterator") st' rfl rfl (by decide) ⟨.int (lo + i), H, I1, ⟨t, ?_⟩, ⟨rfl, rfl⟩, st', fun b hb => (hf b hb).1⟩⟩
    rw [Int.mul_one]
  done := by
    intro X hP hw hK hc i pins s σ H E I hf st hg
    subst hP hw hK
    obtain ⟨f0, f1, f2, f3, f4, f5⟩ := hf it (by simp)
    exact wpAny_pyNext_range_end (I.ok.hd hc) st (by have : n <= i := hg; omega) fun h' eb => ⟨rfl, I.turned (t' := s.toks) (fun b o hb e => eb b o hb e) f0 f1 f3 f4 f5⟩
  self := fun _ _ _ _ _ st h => wpAny_pyIter_rangeiter st h
section
variable {X : Cx} {tg : Expr}
theorem uv {pins : List (Addr × Obj)} {σ : St} {H : Hp} {s : Shared} {R : It -> Hp -> Prop} {E : Value -> Shared -> Prop} {lo hi : Int} {t u v : Tok} {tk : Nat} (I : Inv X pins σ H s) (h1 : -(2 ^ 62) <= lo) (h2 : lo < 2 ^ 62) (h3 : -(2 ^ 62) <= hi) (h4 : hi < 2 ^ 62)
    (q : R (Itr lo (hi - lo).toNat) H) : wpAny (model X.prog X.w) X.A (pyIter (.ref s.heap.objs.size)) (PIE X pins σ tg R) E { s with heap := s.heap.push { cls := .type "range", data := .fields #[.int lo t, .int hi u, .int 1 v] }, toks := tk } := by
  refine wpAny_pyIter_range (IsRange.new ..) (small_one h1 h2 h3 h4) ?_
  have I1 : Inv X pins σ H { s with heap := s.heap.push { cls := .type "range", data := .fields #[.int lo t, .int hi u, .int 1 v] }, toks := tk } := I.kept fun b o e => Heap.get?_push_of_some _ e
  refine ⟨(s.heap.push { cls := .type "range", data := .fields #[.int lo t, .int hi u, .int 1 v] }).objs.size, [(s.heap.push { cls := .type "range", data := .fields #[.int lo t, .int hi u, .int 1 v] }).objs.size], _, _, H, rfl,
    I1.kept (t' := tk) fun b o e => Heap.get?_push_of_some _ e, vD _ lo (hi - lo).toNat, ?_, fun b hb => ?_, q⟩
  · have e1 : lo + ((0 : Nat) : Int) * 1 = lo := by simp
    have e2 : (((hi - lo).toNat : Nat) : Int) - ((0 : Nat) : Int) = Builtin.Range.rangeSize lo hi 1 := by rw [rangeSize_one]; split <;> omega
    show IsRangeIter _ _ (lo + ((0 : Nat) : Int) * 1) ((((hi - lo).toNat : Nat) : Int) - ((0 : Nat) : Int)) 1
    rw [e1, e2]
    exact Heap.get?_push_size _ rfl
  · have e : b = (s.heap.push { cls := .type "range", data := .fields #[.int lo t, .int hi u, .int 1 v] }).objs.size := by simpa using hb
    subst e
    exact I1.ya (Nat.le_refl _) (I1.hok.fresh (Nat.le_refl _))
noncomputable def Gs (ta : TA) : TI := fun σ H R => ta σ H fun vs H1 => ∃ j : Int, vs = [.int j] /\ -(2 ^ 62) <= j /\ j < 2 ^ 62 /\ R (Itr 0 j.toNat) H1
noncomputable def G5 (ta : TA) : TI := fun σ H R => ta σ H fun vs H1 => ∃ i j : Int, vs = [.int i, .int j] /\ (-(2 ^ 62) <= i /\ i < 2 ^ 62 /\ -(2 ^ 62) <= j /\ j < 2 ^ 62) /\ R (Itr i (j - i).toNat) H1
theorem xF {a : Expr} {ta : TA} {p pos : Pos} (hg : Gl X "range") (hm : X.mg "range" = none) (ha : PA X [a] ta) (hs : starEach [a] X.env = [(false, eval a X.env)] := by rfl) : PI X tg (.Call (.Name "range" p) [a] [] pos) (Gs ta) := by
  intro pins s σ H R I h
  refine Call_ (iG I hg hm boot_range (PyProof.Rows.callWith_type1 (thn (ha pos pins s σ H _ I h) fun us s1 ⟨vs, H1, I1, r1, q1⟩ => ?_) hs rfl))
  obtain ⟨j, e, q1, q2, q⟩ := q1
  subst e
  cases r1 with
  | cons r rr =>
    cases rr
    obtain ⟨t, rfl⟩ := r
    exact call_range_1 (uv I1 (by omega) (by omega) q1 q2 (by simpa using q))
theorem yl {a b : Expr} {ta : TA} {p pos : Pos} (hg : Gl X "range") (hm : X.mg "range" = none) (ha : PA X [a, b] ta) (hs : starEach [a, b] X.env = [(false, eval a X.env), (false, eval b X.env)] := by rfl) (hs2 : starEach [b] X.env = [(false, eval b X.env)] := by rfl) :
    PI X tg (.Call (.Name "range" p) [a, b] [] pos) (G5 ta) := by
  intro pins s σ H R I h
  refine Call_ (iG I hg hm boot_range (PyProof.Rows.callWith_type1 (thn (ha pos pins s σ H _ I h) fun us s1 ⟨vs, H1, I1, r1, q1⟩ => ?_) (by rw [hs, hs2]) (by rw [hs2]; rfl)))
  obtain ⟨i, j, e, ⟨q1, q2, q3, q4⟩, q⟩ := q1
  subst e
  cases r1 with
  | cons r rr =>
    cases rr with
    | cons r' rr =>
      cases rr
      obtain ⟨t, rfl⟩ := r
      obtain ⟨t', rfl⟩ := r'
      exact call_range_2 (uv I1 q1 q2 q3 q4 q)
noncomputable def HW (wi : TI) (g : TG) (tb : TS) : TS := fun D σ H => wi σ H fun J H1 => ∃ W : Nat -> Nat -> St -> Hp -> Prop, (∃ m, W 0 m σ H1) /\ ∀ i m σ H, W i m σ H →
  (J.stop i H /\ D.nx σ H) \/ (J.go i H /\ ∃ N : St -> Hp -> Prop, (∀ σ' H', N σ' H' -> ∃ m', m' < m /\ W (i + 1) m' σ' H') /\ ∀ x H', J.yld i H x H' -> g x σ H' fun σ2 H2 => tb { D with nx := N, ct := N, bk := D.nx } σ2 H2)
noncomputable def ib (fp : List Addr) (h : Heap) : List (Addr × Obj) := fp.filterMap fun b => (h.get? b).map fun o => (b, o)
theorem cJ {fp : List Addr} {h : Heap} {b : Addr} {o : Obj} (hb : b ∈ fp) (e : h.get? b = some o) : (b, o) ∈ ib fp h := List.mem_filterMap.mpr ⟨b, hb, by rw [e]; rfl⟩
theorem x9 {fp : List Addr} {h : Heap} {p : Addr × Obj} (hp : p ∈ ib fp h) : p.1 ∈ fp /\ h.get? p.1 = some p.2 := by
  obtain ⟨b, hb, e⟩ := List.mem_filterMap.mp hp
  cases q : h.get? b with
  | none => rw [q] at e; cases e
  | some o =>
    rw [q] at e
    have e' : (b, o) = p := Option.some.inj e
    subst e'
    exact ⟨hb, q⟩
theorem Inv.pinned {pins : List (Addr × Obj)} {σ : St} {H : Hp} {s : Shared} {fp : List Addr} (I : Inv X pins σ H s) (hf : ∀ b ∈ fp, kZ X pins H b) (ho : ∀ b ∈ fp, ∃ o, s.heap.get? b = some o /\ ∀ v, o.data ≠ .cell v) : Inv X (pins ++ ib fp s.heap) σ H s :=
  I.kM fun p hp => (List.mem_append.mp hp).elim (fun z => I.pin p (List.mem_append_right _ z)) fun z => by
    obtain ⟨hb, e⟩ := x9 z
    obtain ⟨f0, f1, f2, _⟩ := hf p.1 hb
    obtain ⟨o, e', d⟩ := ho p.1 hb
    rw [e] at e'; cases e'
    exact ⟨e, f0, f1, f2, d⟩
theorem Inv.fJ {pins pl : List (Addr × Obj)} {σ : St} {H : Hp} {s : Shared} (I : Inv X (pins ++ pl) σ H s) : Inv X pins σ H s := I.kM fun p hp => I.pin p (List.mem_append_right _ (List.mem_append_left _ hp))
theorem Fh {iter : Expr} {body : List Stmt} {wi : TI} {g : TG} {tb : TS} {pos : Pos} (hp : PassesOwn (model X.prog X.w) X.A X.env X.xe) (hc : X.calm = true) (hi : PI X tg iter wi) (hg : PG X tg g) (hb : PSs X body tb)
    (hs : ∀ x, foldedSetIterable iter X.env x = pure x := by intro _; rfl) : PS X (.For tg iter body [] pos) (HW wi g tb) := by
  intro pins s σ H D I h
  refine wpAny_For (thn (hi pins s σ H _ I h) fun v s1 h1 => thn h1 fun itv s2 h2 => ?_) hs
  obtain ⟨it, fp, tn, J, H2, e, I2, T, st2, f2, W, ⟨m0, w0⟩, turn⟩ := h2
  subst e
  -- what stays true of the iterator's objects through the loop
  have stat : ∀ {H' : Hp}, (∀ b ∈ fp, H' b = none) -> ∀ b ∈ fp, kZ X pins H' b := fun hn b hb => ⟨hn b hb, (f2 b hb).2⟩
  refine codeAny_forLoop_any (fun n s' => ∃ i σ' H', Inv X pins σ' H' s' /\ tn i s'.heap /\ (∀ b ∈ fp, H' b = none) /\ W i n σ' H') ?_ m0 ⟨0, σ, H2, I2, st2, fun b hb => (f2 b hb).1, w0⟩
  rintro n s3 ⟨i, σ3, H3, I3, st3, fr3, w3⟩
  rcases turn i n σ3 H3 w3 with ⟨stop, qn⟩ | ⟨go, N, hN, step⟩
  · refine wpAny_passesOwn hp (thn (T.done X rfl rfl rfl hc i pins s3 σ3 H3 X.xe I3 (stat fr3) st3 stop) fun r s4 ⟨hr, I4⟩ => ?_)
    subst hr
    exact wpAny_execs_nil ⟨σ3, H3, I4, qn⟩
  · refine wpAny_passesOwn hp (thn (T.item X rfl rfl rfl hc i pins s3 σ3 H3 X.xe I3 (stat fr3) st3 go) fun r s4 ⟨u, hr, h4⟩ => ?_)
    subst hr
    refine wpAny_passesOwn hp (thn h4 fun _ s5 ⟨x, H5, I5, r5, y5, st5, fr5⟩ => ?_)
    have I5' := I5.pinned (stat fr5) (T.obj _ _ st5)
    refine wpAny_passesOwn hp (thn (hg _ s5 σ3 H5 x u _ I5' r5 (step x H5 y5)) fun _ s6 ⟨σ6, H6, I6, q6⟩ => ?_)
    refine wpAny_passesOwn hp (thn (hb _ s6 σ6 H6 _ I6 q6) fun f s7 q7 => ?_)
    have again : ∀ {σ7 : St} {H7 : Hp}, Inv X (pins ++ ib fp s5.heap) σ7 H7 s7 -> N σ7 H7 -> ∃ m, m < n /\ ∃ i σ' H', Inv X pins σ' H' s7 /\ tn i s7.heap /\ (∀ b ∈ fp, H' b = none) /\ W i m σ' H' := fun {σ7 H7} I7 n7 => by
      obtain ⟨m', hm, w7⟩ := hN σ7 H7 n7
      refine ⟨m', hm, i + 1, σ7, H7, I7.fJ, T.keep _ _ _ st5 fun b hb o e => (I7.pin (b, o) (List.mem_append_right _ (List.mem_append_right _ (cJ hb e)))).1, fun b hb => ?_, w7⟩
      obtain ⟨o, e, d⟩ := T.obj _ _ st5 b hb
      exact (I7.pin (b, o) (List.mem_append_right _ (List.mem_append_right _ (cJ hb e)))).2.1
    cases f with
    | next => obtain ⟨σ7, H7, I7, n7⟩ := q7; exact again I7 n7
    | cont => obtain ⟨σ7, H7, I7, n7⟩ := q7; exact again I7 n7
    | brk => obtain ⟨σ7, H7, I7, q7⟩ := q7; exact ⟨σ7, H7, I7.fJ, q7⟩
    | ret v => obtain ⟨x7, σ7, H7, I7, r7, q7⟩ := q7; exact ⟨x7, σ7, H7, I7.fJ, r7, q7⟩
end
noncomputable abbrev R2 := V -> V -> Hp -> VK -> Prop
noncomputable def OpR (X : Cx) (f : Value -> Value -> Sem Value) (r : R2) : Prop :=
  ∀ (pins : List (Addr × Obj)) (s : Shared) (σ : St) (H : Hp) (x y : V) (v u : Value) (Q : VK), Inv X pins σ H s -> RelV x v -> RelV y u -> r x y H Q →
    wpAny (model X.prog X.w) X.A (f v u) (EP X pins σ Q) X.xe s
noncomputable def UnR (X : Cx) (f : Value -> Sem Value) (r : V -> Hp -> VK -> Prop) : Prop :=
  ∀ (pins : List (Addr × Obj)) (s : Shared) (σ : St) (H : Hp) (x : V) (v : Value) (Q : VK), Inv X pins σ H s -> RelV x v -> r x H Q →
    wpAny (model X.prog X.w) X.A (f v) (EP X pins σ Q) X.xe s
noncomputable def bO (X : Cx) (f : Value) (r : List V -> Hp -> VK -> Prop) : Prop :=
  ∀ (pins : List (Addr × Obj)) (s : Shared) (σ : St) (H : Hp) (xs : List V) (us : List Value) (Q : VK), Inv X pins σ H s -> Vals xs us -> r xs H Q →
    wpAny (model X.prog X.w) X.A (call f us) (EP X pins σ Q) X.xe s
noncomputable def HC (X : Cx) (r : V -> Hp -> (Bool -> Hp -> Prop) -> Prop) : Prop :=
  ∀ (pins : List (Addr × Obj)) (s : Shared) (σ : St) (H : Hp) (x : V) (v : Value) (Q : Bool -> Hp -> Prop), Inv X pins σ H s -> RelV x v -> r x H Q →
    wpAny (model X.prog X.w) X.A (truthy v) (TP X pins σ Q) X.xe s
noncomputable def tOp (r : R2) (ta tb : TE) : TE := fun σ H Q => ta σ H fun x H1 => tb σ H1 fun y H2 => r x y H2 Q
noncomputable def tUn (r : V -> Hp -> VK -> Prop) (ta : TE) : TE := fun σ H Q => ta σ H fun x H1 => r x H1 Q
noncomputable def rI (C : Int -> Int -> Prop) (g : Int -> Int -> V) : R2 := fun x y H Q => ∃ i j, x = .int i /\ y = .int j /\ C i j /\ Q (g i j) H
noncomputable def rI0 (g : Int -> Int -> V) : R2 := fun x y H Q => ∃ i j, x = .int i /\ y = .int j /\ Q (g i j) H
noncomputable def rU (g : Int -> V) : V -> Hp -> VK -> Prop := fun x H Q => ∃ i, x = .int i /\ Q (g i) H
section
variable {X : Cx} {a b c : Expr} {ta tb tc : TE} {pos : Pos}
theorem E9 (ha : PE X a ta) (hb : PE X b tb) {pins : List (Addr × Obj)} {s : Shared} {σ : St} {H : Hp} {R : V -> V -> Hp -> Prop} (I : Inv X pins σ H s)
    (h : ta σ H fun x H1 => tb σ H1 fun y H2 => R x y H2) {Q : Value -> Shared -> Prop} {f : Value -> Value -> Sem Value}
    (hf : ∀ v u s2 x y H2, Inv X pins σ H2 s2 -> RelV x v -> RelV y u -> R x y H2 -> wpAny (model X.prog X.w) X.A (f v u) Q X.xe s2) :
    wpAny (model X.prog X.w) X.A (eval a X.env) (fun v s₁ => wpAny (model X.prog X.w) X.A (eval b X.env) (fun u s₂ => wpAny (model X.prog X.w) X.A (f v u) Q X.xe s₂) X.xe s₁) X.xe s := by
  refine thn (ha pins s σ H _ I h) fun v s1 ⟨x, H1, I1, r1, q1⟩ => ?_
  refine thn (hb pins s1 σ H1 _ I1 q1) fun u s2 ⟨y, H2, I2, r2, q2⟩ => ?_
  exact hf v u s2 x y H2 I2 r1 r2 q2
theorem G4 {op : Operator} {r : R2} (ho : OpR X (binaryOp op) r) (ha : PE X a ta) (hb : PE X b tb) : PE X (.BinOp a op b pos) (tOp r ta tb) := by
  intro pins s σ H Q I h
  exact wpAny_BinOp (E9 ha hb I h fun v u s2 x y H2 I2 rx ry q => ho pins s2 σ H2 x y v u Q I2 rx ry q)
theorem DG {op : UnaryOp} {r : V -> Hp -> VK -> Prop} (ho : UnR X (unaryOp op) r) (ha : PE X a ta) : PE X (.UnaryOp op a pos) (tUn r ta) := by
  intro pins s σ H Q I h
  exact UnaryOp_ (thn (ha pins s σ H _ I h) fun v s1 ⟨x, H1, I1, r1, q1⟩ => ho pins s1 σ H1 x v Q I1 r1 q1)
theorem opI {f : Value -> Value -> Sem Value} {C : Int -> Int -> Prop} {g : Int -> Int -> Int}
    (rule : ∀ (i j : Int) (t u : Tok) (s : Shared) (Q : Value -> Shared -> Prop) (E : Value -> Shared -> Prop), C i j -> Q (.int (g i j) s.toks) { s with toks := s.toks + 1 } -> wpAny (model X.prog X.w) X.A (f (.int i t) (.int j u)) Q E s) :
    OpR X f (rI C fun i j => .int (g i j)) := by
  intro pins s σ H x y v u Q I rx ry h
  obtain ⟨i, j, rfl, rfl, hc, q⟩ := h
  obtain ⟨t, rfl⟩ := rx
  obtain ⟨t', rfl⟩ := ry
  exact rule i j t t' s _ _ hc ⟨.int (g i j), H, I.tok _, ⟨_, rfl⟩, q⟩
theorem F5 {f : Value -> Value -> Sem Value} {g : Int -> Int -> Int}
    (rule : ∀ (i j : Int) (t u : Tok) (s : Shared) (Q : Value -> Shared -> Prop) (E : Value -> Shared -> Prop), Q (.int (g i j) s.toks) { s with toks := s.toks + 1 } -> wpAny (model X.prog X.w) X.A (f (.int i t) (.int j u)) Q E s) :
    OpR X f (rI0 fun i j => .int (g i j)) := by
  intro pins s σ H x y v u Q I rx ry h
  obtain ⟨i, j, rfl, rfl, q⟩ := h
  obtain ⟨t, rfl⟩ := rx
  obtain ⟨t', rfl⟩ := ry
  exact rule i j t t' s _ _ ⟨.int (g i j), H, I.tok _, ⟨_, rfl⟩, q⟩
theorem BR {f : Value -> Value -> Sem Value} {g : Int -> Int -> Bool}
    (rule : ∀ (i j : Int) (t u : Tok) (s : Shared) (Q : Value -> Shared -> Prop) (E : Value -> Shared -> Prop), Q (.bool (g i j)) s -> wpAny (model X.prog X.w) X.A (f (.int i t) (.int j u)) Q E s) :
    OpR X f (rI0 fun i j => .bl (g i j)) := by
  intro pins s σ H x y v u Q I rx ry h
  obtain ⟨i, j, rfl, rfl, q⟩ := h
  obtain ⟨t, rfl⟩ := rx
  obtain ⟨t', rfl⟩ := ry
  exact rule i j t t' s _ _ ⟨.bl (g i j), H, I, rfl, q⟩
theorem E6 : OpR X (binaryOp .Add) (rI0 fun i j => .int (i + j)) := F5 fun _ _ _ _ _ _ _ q => add_int q
theorem dI : OpR X (binaryOp .Sub) (rI0 fun i j => .int (i - j)) := F5 fun _ _ _ _ _ _ _ q => sub_int q
theorem pO : OpR X (binaryOp .Mod) (rI (fun _ j => 0 < j) fun i j => .int (i % j)) := opI fun i j _ _ _ _ _ hc q => by
  have h1 : (0 : Int) < j := hc
  exact mod_int' (by omega) (by rw [Int.fmod_eq_emod_of_nonneg i (by omega)]; exact q)
theorem unI {f : Value -> Sem Value} {g : Int -> Int}
    (rule : ∀ (i : Int) (t : Tok) (s : Shared) (Q : Value -> Shared -> Prop) (E : Value -> Shared -> Prop), Q (.int (g i) s.toks) { s with toks := s.toks + 1 } -> wpAny (model X.prog X.w) X.A (f (.int i t)) Q E s) :
    UnR X f (rU fun i => .int (g i)) := by
  intro pins s σ H x v Q I rx h
  obtain ⟨i, rfl, q⟩ := h
  obtain ⟨t, rfl⟩ := rx
  exact rule i t s _ _ ⟨.int (g i), H, I.tok _, ⟨_, rfl⟩, q⟩
theorem jB : UnR X (unaryOp .USub) (rU fun i => .int (-i)) := unI fun _ _ _ _ _ q => neg_int q
end
section
variable {X : Cx} {a b c : Expr} {ta tb tc : TE} {pos : Pos}
theorem u_ : OpR X (compareOp .Lt) (rI0 fun i j => .bl (decide (i < j))) := BR fun _ _ _ _ _ _ _ q => lt_int q
theorem mV : OpR X (compareOp .LtE) (rI0 fun i j => .bl (decide (i <= j))) := BR fun _ _ _ _ _ _ _ q => le_int q
theorem mJ : OpR X (compareOp .Gt) (rI0 fun i j => .bl (decide (j < i))) := BR fun _ _ _ _ _ _ _ q => gt_int q
theorem F3 : OpR X (compareOp .GtE) (rI0 fun i j => .bl (decide (j <= i))) := BR fun _ _ _ _ _ _ _ q => ge_int q
theorem bu (b : Expr) {op : CmpOp} (h : op ≠ .In := by decide) (h2 : op ≠ .NotIn := by decide) : behindInMarks op b = false := by
  have e1 : (op == CmpOp.In) = false := by cases op <;> first | rfl | exact absurd rfl h
  have e2 : (op == CmpOp.NotIn) = false := by cases op <;> first | rfl | exact absurd rfl h2
  cases b <;> simp [behindInMarks, e1, e2]
theorem DA {op : CmpOp} {r : R2} (ho : OpR X (compareOp op) r) (ha : PE X a ta) (hb : PE X b tb) (hm : behindInMarks op b = false) : PE X (.Compare a [op] [b] pos) (tOp r ta tb) := by
  intro pins s σ H Q I h
  exact wpAny_Compare1 (E9 ha hb I h fun v u s2 x y H2 I2 rx ry q => ho pins s2 σ H2 x y v u Q I2 rx ry q) hm
noncomputable def AI (t : TE) : TT := fun σ H Q => t σ H fun x H' => ∃ k, x = .bl k /\ Q k H'
theorem Cf {op : CmpOp} {r : R2} (ho : OpR X (compareOp op) r) (ha : PE X a ta) (hb : PE X b tb) (hm : behindInMarks op b = false) : PT X (.Compare a [op] [b] pos) (AI (tOp r ta tb)) := by
  intro pins s σ H Q I h
  refine wpAny_isTrue_Compare1 (thn (ha pins s σ H _ I h) fun v s1 ⟨x, H1, I1, r1, q1⟩ => thn (hb pins s1 σ H1 _ I1 q1) fun u s2 ⟨y, H2, I2, r2, q2⟩ =>
    thn (ho pins s2 σ H2 x y v u _ I2 r1 r2 q2) fun c s3 ⟨z, H3, I3, r3, k, e, q3⟩ => ?_) hm
  subst e
  cases r3
  exact wpAny_truthy_bool ⟨H3, I3, q3⟩
noncomputable def vq (r r' : R2) (ta tb tc : TE) : TE := fun σ H Q => ta σ H fun x H1 => tb σ H1 fun y H2 => r x y H2 fun z H3 => ∃ k, z = .bl k ∧
  (if k = true then tc σ H3 fun w' H4 => r' y w' H4 Q else Q (.bl false) H3)
theorem Au {op op' : CmpOp} {r r' : R2} (ho : OpR X (compareOp op) r) (ho' : OpR X (compareOp op') r') (ha : PE X a ta) (hb : PE X b tb) (hc : PE X c tc)
    (hm : lastMarks [op, op'] [b, c] = false := by with_unfolding_all rfl) : PE X (.Compare a [op, op'] [b, c] pos) (vq r r' ta tb tc) := by
  intro pins s σ H Q I h
  refine Compare_chain (thn (ha pins s σ H _ I h) fun v s1 ⟨x, H1, I1, r1, q1⟩ => chain_link (thn (hb pins s1 σ H1 _ I1 q1) fun u s2 ⟨y, H2, I2, r2, q2⟩ =>
    thn (ho pins s2 σ H2 x y v u _ I2 r1 r2 q2) fun d s3 ⟨z, H3, I3, r3, k, e, q3⟩ => ?_)) hm
  subst e
  cases r3
  refine wpAny_truthy_bool ?_
  cases k with
  | false => exact ite_ff ⟨.bl false, H3, I3, rfl, q3⟩
  | true => exact ite_tt (chain_last (thn (hc pins s3 σ H3 _ I3 q3) fun w' s4 ⟨z', H4, I4, r4, q4⟩ => ho' pins s4 σ H4 y z' u w' Q I4 r2 r4 q4))
theorem za {op op' : CmpOp} {r r' : R2} (ho : OpR X (compareOp op) r) (ho' : OpR X (compareOp op') r') (ha : PE X a ta) (hb : PE X b tb) (hc : PE X c tc)
    (hm : lastMarks [op, op'] [b, c] = false := by with_unfolding_all rfl) : PT X (.Compare a [op, op'] [b, c] pos) (AI (vq r r' ta tb tc)) := by
  intro pins s σ H Q I h
  refine isTrue_chain (thn (ha pins s σ H _ I h) fun v s1 ⟨x, H1, I1, r1, q1⟩ => test_link (thn (hb pins s1 σ H1 _ I1 q1) fun u s2 ⟨y, H2, I2, r2, q2⟩ =>
    thn (ho pins s2 σ H2 x y v u _ I2 r1 r2 q2) fun d s3 ⟨z, H3, I3, r3, k, e, q3⟩ => ?_)) hm
  subst e
  cases r3
  refine wpAny_truthy_bool ?_
  cases k with
  | false =>
    obtain ⟨k', e', q'⟩ := q3
    cases e'
    exact ite_ff ⟨H3, I3, q'⟩
  | true =>
    refine ite_tt (test_last (thn (hc pins s3 σ H3 _ I3 q3) fun w' s4 ⟨z', H4, I4, r4, q4⟩ => thn (ho' pins s4 σ H4 y z' u w' _ I4 r2 r4 q4) fun d' s5 ⟨z2, H5, I5, r5, k2, e2, q5⟩ => ?_))
    subst e2
    cases r5
    exact wpAny_truthy_bool ⟨H5, I5, q5⟩
noncomputable def Dx (K : PySem.W.Frag) (x : V) (H : Hp) (k : Bool) : Prop :=
  match x with
  | .non => k = false
  | .bl b => k = b
  | .int i => k = (i != 0)
  | .str y => y.length <= sizeLine /\ k = ((y.length : Int) != 0)
  | .byt y => y.size <= sizeLine /\ k = ((y.size : Int) != 0)
  | .ref p => (∃ xs, SqL K H p xs /\ k = !xs.isEmpty) \/ (∃ xs, SqT K H p xs /\ k = !xs.isEmpty) \/ ∃ kvs, H p = some (.dK kvs) /\ k = !kvs.isEmpty
  | _ => False
theorem vG {κ : Type} {kvs : List (κ × V)} {vs : List (κ × Value)} (r : KV kvs vs) : (!vs.isEmpty) = !kvs.isEmpty := by
  cases r <;> rfl
theorem pV {xs : List V} {its : List Value} (r : Vals xs its) : (!its.toArray.isEmpty) = !xs.isEmpty := by
  cases r <;> simp
theorem ju : (sizeLine : Nat) < 2 ^ 63 := by rw [sizeLine_eq]; decide
theorem Ex : HC X (fun x H Q => ∃ k, Dx X.K x H k /\ Q k H) := by
  intro pins s σ H x v Q I rx h
  obtain ⟨k, e, q⟩ := h
  have hl := ju
  have hs : sizeLine = 16777216 := sizeLine_eq
  cases x with
  | non =>
    cases rx
    have e' : k = false := e
    subst e'
    exact truthy_none ⟨H, I, q⟩
  | bl b =>
    cases rx
    have e' : k = b := e
    subst e'
    exact wpAny_truthy_bool ⟨H, I, q⟩
  | int i =>
    obtain ⟨t, rfl⟩ := rx
    have e' : k = (i != 0) := e
    subst e'
    exact PySem.P.truthy_int ⟨H, I, q⟩
  | str y =>
    obtain ⟨t, rfl⟩ := rx
    obtain ⟨hy, e'⟩ : y.length <= sizeLine /\ k = ((y.length : Int) != 0) := e
    subst e'
    exact PySem.P.truthy_str (by omega) ⟨H, I.tok _, q⟩
  | byt y =>
    obtain ⟨t, rfl⟩ := rx
    obtain ⟨hy, e'⟩ : y.size <= sizeLine /\ k = ((y.size : Int) != 0) := e
    subst e'
    exact PySem.W.truthy_bytes (by omega) ⟨H, I.tok _, q⟩
  | ref p =>
    cases rx
    have e' : (∃ xs, SqL X.K H p xs /\ k = !xs.isEmpty) \/ (∃ xs, SqT X.K H p xs /\ k = !xs.isEmpty) \/ ∃ kvs, H p = some (.dK kvs) /\ k = !kvs.isEmpty := e
    rcases e' with ⟨xs, hx, e'⟩ | ⟨xs, hx, e'⟩ | ⟨kvs, hx, e'⟩
    · subst e'
      obtain ⟨its, r, pl, hz⟩ := I.list hx
      have hlen := r.length
      exact wpAny_truthy_list pl.isList (by simp only [List.size_toArray]; omega) ⟨H, I.tok _, by rw [pV r]; exact q⟩
    · subst e'
      obtain ⟨its, r, pl, hz⟩ := I.tuple hx
      have hlen := r.length
      exact truthy_tuple pl (by simp only [List.size_toArray]; omega) ⟨H, I.tok _, by rw [pV r]; exact q⟩
    · subst e'
      obtain ⟨hz, hS, vs, r, m⟩ : kvs.length <= sizeLine /\ (p == sysModules) = false /\ ∃ vs, KV kvs vs /\ s.heap.DictOf (tN X.prog X.w) p vs := I.hok p _ hx
      have hlen : kvs.length = vs.length := Paired.length r
      exact wpAny_truthy_dict hS m (by omega) ⟨H, I.tok _, by rw [vG r]; exact q⟩
  | _ => exact (show False from e).elim
theorem Bg (ha : PE X a ta) (he : ∀ whole, isTrue a X.env whole = (do let v ← whole; standAt a.pos; holding [v] (truthy v))) :
    PT X a (fun σ H Q => ta σ H fun x H' => ∃ k, Dx X.K x H' k /\ Q k H') := by
  intro pins s σ H Q I h
  exact isTrue_plain (thn (ha pins s σ H _ I h) fun v s1 ⟨x, H1, I1, r1, q1⟩ => Ex pins s1 σ H1 x v Q I1 r1 q1) (he _)
theorem wg : OpR X (binaryOp .Add) (fun x y H Q => ∃ i j, x = .str i /\ y = .str j /\ i.length + j.length <= sizeLine /\ Q (.str (i ++ j)) H) := by
  intro pins s σ H x y v u Q I rx ry h
  obtain ⟨i, j, rfl, rfl, hz, q⟩ := h
  obtain ⟨t, rfl⟩ := rx
  obtain ⟨t', rfl⟩ := ry
  exact add_str (fun t' tk => ⟨.str (i ++ j), H, I.tok _, ⟨_, rfl⟩, q⟩) hz
theorem vals1 {x : V} {us : List Value} (r : Vals [x] us) : ∃ u, us = [u] /\ RelV x u := by
  cases r with
  | cons r1 r2 => cases r2; exact ⟨_, rfl, r1⟩
theorem vals2 {x y : V} {us : List Value} (r : Vals [x, y] us) : ∃ u w', us = [u, w'] /\ RelV x u /\ RelV y w' := by
  cases r with
  | cons r1 r2 =>
    cases r2 with
    | cons r3 r4 => cases r4; exact ⟨_, _, rfl, r1, r3⟩
theorem xQ (hc : X.calm = true) : bO X (.builtin "max") (fun xs H Q => ∃ i j, xs = [.int i, .int j] /\ Q (.int (if j > i then j else i)) H) := by
  intro pins s σ H xs us Q I r h
  obtain ⟨i, j, rfl, q⟩ := h
  obtain ⟨u, w', rfl, ⟨t, rfl⟩, ⟨t', rfl⟩⟩ := vals2 r
  refine max_two_ints (I.ok.hd hc) fun h' tk k => ⟨_, H, I.kept k, ?_, q⟩
  by_cases hj : j > i
  · rw [if_pos hj, if_pos hj]; exact ⟨_, rfl⟩
  · rw [if_neg hj, if_neg hj]; exact ⟨_, rfl⟩
theorem yG : bO X (.type "int") (fun xs H Q => (∃ i, xs = [.int i] /\ Q (.int i) H) \/ ∃ k, xs = [.bl k] /\ Q (.int (if k then 1 else 0)) H) := by
  intro pins s σ H xs us Q I r h
  rcases h with ⟨i, rfl, q⟩ | ⟨k, rfl, q⟩
  · obtain ⟨u, rfl, t, rfl⟩ := vals1 r
    exact call_int_int ⟨.int i, H, I, ⟨_, rfl⟩, q⟩
  · obtain ⟨u, rfl, r1⟩ := vals1 r
    cases r1
    exact call_int_bool ⟨.int (if k then 1 else 0), H, I.tok _, ⟨_, rfl⟩, q⟩
end
structure FG (h : Heap) (x dx C : Addr) (mA : Str -> Option Value) : Prop where
  obj : h.get? x = some (PySem.W.instObj C dx)
  ns : h.Ns1 dx mA
  ne : dx ≠ x
theorem xO {h : Heap} {dx : Addr} {mA : Str -> Option Value} (n : h.Ns1 dx mA) : ∃ od, h.get? dx = some od /\ ∀ name, PySem.W.lookIn name od = some (mA name) := by
  obtain ⟨o, es, ep, ho, hd, hk, _, hm⟩ := n
  refine ⟨o, ho, fun name => ?_⟩
  have e := hm name
  unfold nsFind findBy at e
  rw [<- Array.find?_toList] at e
  unfold PySem.W.lookIn
  rw [hd]
  dsimp only
  split
  · rename_i y q
    rw [q] at e
    exact congrArg some e
  · rename_i q
    rw [q] at e
    have a : es.toList.any (·.refKey) = false := by
      rw [List.any_eq_false]
      intro y hy
      obtain ⟨z, t, hkey⟩ := hk y (Array.mem_toList_iff.mp hy)
      simp [DictEntry.refKey, hkey]
    have a' : ¬ es.toList.any (·.refKey) = true := by rw [a]; exact Bool.false_ne_true
    rw [if_neg a']
    exact congrArg some e
theorem FG.look {h : Heap} {x dx C : Addr} {mA : Str -> Option Value} (I : FG h x dx C mA) : ∃ od, PySem.W.InstAt h x (PySem.W.instObj C dx) C (some od) /\ ∀ name, PySem.W.lookIn name od = some (mA name) :=
  let ⟨od, ho, hl⟩ := xO I.ns
  ⟨od, ⟨I.obj, rfl, rfl, ho⟩, hl⟩
section
variable {P : Program} {w : World} {H H' : Hp} {h h' : Heap} {a C dx : Addr} {fs fs' : List (Str × V)}
theorem CG (hok : HOk P w H h) (e : H a = some (.ins C dx fs)) : ∃ mA, FG h a dx C mA /\ (∀ f, EO (fs.lookup f) (mA f)) /\ PySem.Within mA (fs.map (·.1)) /\ fs.length <= 1000 /\ H dx = some (.own a) := by
  obtain ⟨d, z, ne, ob, mA, n, r, q⟩ := (show cK P w H h a (.ins C dx fs) from hok a _ e)
  exact ⟨mA, ⟨ob, n, ne⟩, r, q, z, d⟩
end
structure Cls (K : PySem.W.Frag) (C : Addr) : Prop where
  pg : PySem.W.plainGet K C Str.empty = true
  hd : PySem.W.hasDictIn K C = true
  po : PySem.W.plainOver K C = true
  sa : PySem.W.findIn K (.ref C) "__setattr__" = some (some (.builtin "object.__setattr__"))
theorem Cls.get {K : PySem.W.Frag} {C : Addr} (c : Cls K C) (f : Str) : PySem.W.plainGet K C f = true := c.pg
section
variable {X : Cx} {pins : List (Addr × Obj)} {σ : St} {H : Hp} {s : Shared} {A : Around} {E : Value -> Shared -> Prop} {Q : Value -> Shared -> Prop} {c : Value} {b : Bool}
inductive kB (K : PySem.W.Frag) (H : Hp) : V -> Value -> Prop where
  | non : kB K H .non (.type "NoneType")
  | bl (x : Bool) : kB K H (.bl x) (.type "bool")
  | int (i : Int) : kB K H (.int i) (.type "int")
  | str (x : Str) : kB K H (.str x) (.type "str")
  | flt (x : UInt64) : kB K H (.flt x) (.type "float")
  | lst {a : Addr} {xs : List V} (e : H a = some (.lst xs)) : kB K H (.ref a) (.type "list")
  | frz {a : Addr} {o : Obj} {xs : List V} (e : H a = some (.frz o (.lst xs))) : kB K H (.ref a) (.type "list")
  | tup {a : Addr} {xs : List V} (e : H a = some (.tup xs)) : kB K H (.ref a) (.type "tuple")
  | gy {a : Addr} {o : Obj} {kvs : List (Key × V)} (e : H a = some (.frz o (.dK kvs))) : kB K H (.ref a) (.type "dict")
  | dK {a : Addr} {kvs : List (Key × V)} (e : H a = some (.dK kvs)) : kB K H (.ref a) (.type "dict")
  | dT {a : Addr} {kvs : List (List Key × V)} (e : H a = some (.dT kvs)) : kB K H (.ref a) (.type "dict")
  | ins {a C dx : Addr} {fs : List (Str × V)} (e : H a = some (.ins C dx fs)) (cl : Cls K C) (ha : PySem.W.findIn K (.ref C) "__class__" = some (some (.builtin "object.__class__")))
      (hn : PySem.W.specialIn K (.builtin "object.__class__") "__get__" = some (some (.builtin "getset_descriptor.__get__"))) (htk : PySem.W.takesIn K (.builtin "object.__class__") = some true)
      (hm : PySem.W.mroIn K C (.type "object") = some true) : kB K H (.ref a) (.ref C)
theorem yu {x : V} {u t : Value} (I : Inv X pins σ H s) (rx : RelV x u) (ty : kB X.K H x t) (e : PySem.W.kitOne X.K t c = some b) (h : ∀ tk, Q (.bool b) { s with toks := tk }) :
    wpAny (model X.prog X.w) A (call (.builtin "isinstance") [u, c]) Q E s := by
  cases ty with
  | non => cases (show u = Value.none from rx); exact PySem.W.kia_one PySem.W.kitx_none I.kIn True.intro e (fun z => nomatch z) h
  | bl y => cases (show u = Value.bool y from rx); exact PySem.W.kia_one PySem.W.kitx_bool I.kIn True.intro e (fun z => nomatch z) h
  | int i => obtain ⟨t, q⟩ := (show ∃ t, u = Value.int i t from rx); cases q; exact PySem.W.kia_one PySem.W.kitx_int I.kIn True.intro e (fun z => nomatch z) h
  | str y => obtain ⟨t, q⟩ := (show ∃ t, u = Value.str y t from rx); cases q; exact PySem.W.kia_one PySem.W.kitx_str I.kIn True.intro e (fun z => nomatch z) h
  | flt y => obtain ⟨t, q⟩ := (show ∃ t, u = Value.float y t from rx); cases q; exact PySem.W.kia_one PySem.W.kitx_float I.kIn True.intro e (fun z => nomatch z) h
  | @lst a xs ea =>
    cases (show u = Value.ref a from rx)
    obtain ⟨_, _, n, _, h1⟩ := (show cK X.prog X.w H s.heap a (.lst xs) from I.hok a _ ea)
    exact PySem.W.kia_one PySem.W.kitx_list I.kIn ⟨_, h1, rfl⟩ e (fun z => nomatch z) h
  | @frz a ob xs ea =>
    cases (show u = Value.ref a from rx)
    obtain ⟨_, _, _, n, _, h1⟩ := (show cK X.prog X.w H s.heap a (.frz ob (.lst xs)) from I.hok a _ ea)
    exact PySem.W.kia_one PySem.W.kitx_list I.kIn ⟨_, h1, rfl⟩ e (fun z => nomatch z) h
  | @tup a xs ea =>
    cases (show u = Value.ref a from rx)
    obtain ⟨_, _, _, p⟩ := (show cK X.prog X.w H s.heap a (.tup xs) from I.hok a _ ea)
    obtain ⟨o, h1, ⟨h2, _⟩, _⟩ := p
    exact PySem.W.kia_one PySem.W.kitx_tuple I.kIn ⟨o, h1, h2⟩ e (fun z => nomatch z) h
  | @gy a ob kvs ea =>
    cases (show u = Value.ref a from rx)
    obtain ⟨_, _, _, vs, _, p⟩ := (show cK X.prog X.w H s.heap a (.frz ob (.dK kvs)) from I.hok a _ ea)
    obtain ⟨o, es, ep, h1, h2, _⟩ := p
    exact PySem.W.kia_one PySem.W.kitx_dict I.kIn ⟨o, h1, h2.1⟩ e (fun z => nomatch z) h
  | @dK a kvs ea =>
    cases (show u = Value.ref a from rx)
    obtain ⟨_, _, vs, _, p⟩ := (show cK X.prog X.w H s.heap a (.dK kvs) from I.hok a _ ea)
    obtain ⟨o, es, ep, h1, h2, _⟩ := p
    exact PySem.W.kia_one PySem.W.kitx_dict I.kIn ⟨o, h1, h2.1⟩ e (fun z => nomatch z) h
  | @dT a kvs ea =>
    cases (show u = Value.ref a from rx)
    obtain ⟨_, _, xs, _, o, es, ep, h1, h2, _⟩ := (show cK X.prog X.w H s.heap a (.dT kvs) from I.hok a _ ea)
    exact PySem.W.kia_one PySem.W.kitx_dict I.kIn ⟨o, h1, h2.1⟩ e (fun z => nomatch z) h
  | @ins a C dx fs ea cl ha hn htk hm =>
    cases (show u = Value.ref a from rx)
    obtain ⟨mA, O, _⟩ := CG I.hok ea
    obtain ⟨od, J, _⟩ := O.look
    exact PySem.W.kia_one (PySem.W.kitx_own (cl.get _) cl.hd ha hn htk hm) I.kIn J e (fun z => nomatch z) h
end
structure gX (k : Nat) (A : Around) : Prop where
  hd : A.handled = none
  dp : A.depth + 3 * k + 5 < recursionLimit
  un : A.units + 16 * k + 200 < cLine
  gd : A.guards = some []
theorem gX.mono {j k : Nat} {A : Around} (r : gX k A) (h : j <= k) : gX j A := ⟨r.hd, by have := r.dp; omega, by have := r.un; omega, r.gd⟩
theorem gX.deeper {k : Nat} {A : Around} (r : gX (k + 1) A) (env : Env) : gX k (A.deeper env) :=
  ⟨r.hd, by have := r.dp; show A.depth + 1 + 3 * k + 5 < _; omega, by have := r.un; show A.units + 3 + 16 * k + 200 < _; omega, r.gd⟩
theorem gX.depth {k : Nat} {A : Around} (r : gX k A) : A.depth < recursionLimit := by have := r.dp; omega
theorem gX.units {k : Nat} {A : Around} (r : gX k A) : A.units + 64 < cLine := by have := r.un; omega
noncomputable def EJ : TA := fun _ H Q => Q [] H
noncomputable def DL (ta : TE) (tr : TA) : TA := fun σ H Q => ta σ H fun x H1 => tr σ H1 fun xs H2 => Q (x :: xs) H2
section
variable {X : Cx} {e : Expr} {es : List Expr} {te : TE} {t : TA} {pos : Pos}
theorem r9 : PA X [] EJ := fun _ _ _ _ H Q I h => Calls.spliced_nil ⟨[], H, I, .nil, h⟩
theorem lE (ha : PE X e te) (hr : PA X es t) (hs : starEach (e :: es) X.env = (false, eval e X.env) :: starEach es X.env := by rfl) : PA X (e :: es) (DL te t) := by
  intro pos pins s σ H Q I h
  rw [hs]
  show wpAny _ _ (spliced ((false, eval e X.env) :: backTo pos (starEach es X.env))) _ _ s
  refine Calls.spliced_cons (thn (ha pins s σ H _ I h) fun u s1 ⟨x, H1, I1, r1, q1⟩ => ?_)
  exact thn (hr pos pins s1 σ H1 _ I1 q1) fun us s2 ⟨xs, H2, I2, r2, q2⟩ => ⟨x :: xs, H2, I2, .cons r1 r2, q2⟩
noncomputable def Io (t : TA) : TE := fun σ H Q => t σ H fun xs H1 => xs.length <= sizeLine /\ ∀ p, H1 p = none -> Q (.ref p) (upd H1 p (.tup xs))
noncomputable def Iz (t : TA) : TE := fun σ H Q => t σ H fun xs H1 => xs.length <= sizeLine /\ ∀ p, H1 p = none -> Q (.ref p) (upd H1 p (.lst xs))
theorem Ey {x1} (h : PA X es t) : PE X (.Tuple es x1 pos) (Io t) := by
  intro pins s σ H Q I hq
  refine wpAny_Tuple_spliced (thn (h pos pins s σ H _ I hq) fun us s1 ⟨xs, H1, I1, r, z, q⟩ => ⟨by rw [<- r.length]; exact z, ?_⟩)
  have hf : H1 s1.heap.objs.size = none := I1.hok.fresh (Nat.le_refl _)
  refine ⟨.ref s1.heap.objs.size, upd H1 s1.heap.objs.size (.tup xs), I1.laid (t' := s1.toks) (fun b u e => Heap.get?_push_of_some _ e) (Nat.le_refl _) ?_, rfl, q _ hf⟩
  exact ⟨z, us, r, ⟨_, Heap.get?_push_size _ rfl, ⟨rfl, _, rfl⟩, rfl⟩⟩
theorem E5 (h : PA X es t) : PE X (.List es pos) (Iz t) := by
  intro pins s σ H Q I hq
  refine wpAny_List_spliced (thn (h pos pins s σ H _ I hq) fun us s1 ⟨xs, H1, I1, r, z, q⟩ => ⟨by rw [<- r.length]; exact z, ?_⟩)
  have hf : H1 s1.heap.objs.size = none := I1.hok.fresh (Nat.le_refl _)
  refine ⟨.ref s1.heap.objs.size, upd H1 s1.heap.objs.size (.lst xs), I1.laid (t' := s1.toks) (fun b u e => Heap.get?_push_of_some _ e) (Nat.le_refl _) ?_, rfl, q _ hf⟩
  exact ⟨z, us, 0, r, Heap.get?_push_size _ rfl⟩
end
noncomputable abbrev Sp := List V -> Hp -> VK -> XK -> Prop
noncomputable abbrev CXT := List Env -> Hp -> Shared -> XK -> Value -> Shared -> Prop
structure Ce (P : Program) (w : World) (K : PySem.W.Frag) (mg : Str -> Option Value) (base : Heap) (A : Around) (outer : List Env) (s : Shared) (H : Hp) : Prop where
  frames : A.frames = some outer
  mod : Mod K mg base
  bs : ∀ b o, base.get? b = some o -> s.heap.get? b = some o /\ H b = none
  bsz : base.objs.size <= s.heap.objs.size
  qd : s.heap.FunFrames base outer
  frf : ∀ b ∈ frs outer, H b = none
  hok : HOk P w H s.heap
  bare : AllBare s.gens
noncomputable def CE (outer : List Env) (P : Program) (w : World) (H : Hp) (s : Shared) (Q : VK) (u : Value) (s' : Shared) : Prop :=
  ∃ v H', s'.os = s.os /\ AllBare s'.gens /\ Un (frs outer) [] H H' s.heap s'.heap /\ HOk P w H' s'.heap /\ RelV v u /\ Q v H'
noncomputable def CR (CX : CXT) (outer : List Env) (P : Program) (w : World) (H : Hp) (s : Shared) (Q : VK) (E : XK) (r : Result) (s' : Shared) : Prop :=
  match r with
  | .ok (.ret u) => CE outer P w H s Q u s'
  | .ok _ => False
  | .error e => CX outer H s E e s'
structure fP (P : Program) (w : World) (K : PySem.W.Frag) (mg : Str -> Option Value) (base : Heap) (CX : CXT) (k : Nat) (f : Addr) (fd : FuncData) (ps : List Str) (sp : Sp) : Prop where
  len : ∀ vs H Q E, sp vs H Q E -> vs.length = ps.length
  run : ∀ (A : Around) (outer : List Env) (s : Shared) (H : Hp) (args : Args) (us : List Value) (vs : List V) (Q : VK) (E : XK), gX k A -> Ce P w K mg base A outer s H -> BindsTo s fd args (ps.zip us) -> Vals vs us -> sp vs H Q E →
    codeAny (model P w) A (.call (.ref f) args) (CR CX outer P w H s Q E) s
theorem fP.mono {P : Program} {w : World} {K : PySem.W.Frag} {mg : Str -> Option Value} {base : Heap} {CX : CXT} {j k : Nat} {f : Addr} {fd : FuncData} {ps : List Str} {sp : Sp} (F : fP P w K mg base CX j f fd ps sp) (h : j <= k) :
    fP P w K mg base CX k f fd ps sp := ⟨F.len, fun A outer s H args us vs Q E hr => F.run A outer s H args us vs Q E (hr.mono h)⟩
theorem fP.imp {P : Program} {w : World} {K : PySem.W.Frag} {mg : Str -> Option Value} {base : Heap} {CX : CXT} {k : Nat} {f : Addr} {fd : FuncData} {ps : List Str} {sp sp' : Sp} (F : fP P w K mg base CX k f fd ps sp)
    (h : ∀ vs H Q E, sp' vs H Q E -> sp vs H Q E) : fP P w K mg base CX k f fd ps sp' :=
  ⟨fun vs H Q E q => F.len vs H Q E (h _ _ _ _ q), fun A outer s H args us vs Q E hr he hb hv hs => F.run A outer s H args us vs Q E hr he hb hv (h _ _ _ _ hs)⟩
section
variable {X : Cx} {pins : List (Addr × Obj)} {σ : St} {H : Hp} {s s' : Shared}
theorem Inv.I_ (I : Inv X pins σ H s) : Ce X.prog X.w X.K X.mg X.base X.A X.stack s H :=
  ⟨I.ok.frames, I.ok.mod, I.bs, Nat.le_trans I.ok.bsz I.sz, I.stack, I.nU, I.hok, I.bare⟩
theorem Inv.after {Q : VK} {u : Value} (I : Inv X pins σ H s) (h : CE X.stack X.prog X.w H s Q u s') : EP X pins σ Q u s' := by
  obtain ⟨v, H', os, bare, un, hok, r, q⟩ := h
  obtain ⟨hh, g, d, t, os'⟩ := s'
  obtain rfl : os' = s.os := os
  exact ⟨v, H', I.call (h' := hh) (g' := g) (d' := d) (t' := t) (ch := []) un hok bare (fun b z => absurd z (by simp)), r, q⟩
end
noncomputable def Gf (sp : Sp) (dvs : List V) (E : XK) (t : TA) : TE := fun σ H Q => t σ H fun vs H1 => sp (vs ++ dvs) H1 Q E
noncomputable def Binds (K : PySem.W.Frag) (fd : FuncData) (ps : List Str) (ds : List Value) : Prop :=
  ∀ (s : Shared) (us : List Value), K.In s.heap -> (us ++ ds).length = ps.length -> BindsTo s fd ⟨us, []⟩ (ps.zip (us ++ ds))
theorem Binds.all {K : PySem.W.Frag} {fd : FuncData} {ps : List Str} (h : ∀ us : List Value, us.length = ps.length -> bindArgs fd ⟨us, []⟩ = pure (ps.zip us)) : Binds K fd ps [] := fun s us _ hl => by
  rw [List.append_nil] at hl ⊢
  exact .of_eq (h us hl)
noncomputable def Passes (CX : CXT) (X : Cx) (E : XK) : Prop := ∀ (pins : List (Addr × Obj)) (σ : St) (H : Hp) (s : Shared) (e : Value) (s' : Shared), Inv X pins σ H s -> CX X.stack H s E e s' -> X.xe e s'
section
variable {X : Cx} {CX : CXT} {k : Nat} {f C : Addr} {fd : FuncData} {ps : List Str} {sp : Sp} {dvs : List V} {ds : List Value} {E : XK} {x m : Str} {p pos apos : Pos} {e o : Expr} {es : List Expr} {ta : TE} {t : TA}
theorem ED {pins : List (Addr × Obj)} {σ : St} {H : Hp} {s : Shared} {Q : VK} {us : List Value} {vs : List V} (F : fP X.prog X.w X.K X.mg X.base CX k f fd ps sp) (hr : gX k X.A) (hb : Binds X.K fd ps ds) (hd : Vals dvs ds) (hx : Passes CX X E)
    (I : Inv X pins σ H s) (r : Vals vs us) (h : sp (vs ++ dvs) H Q E) : wpAny (model X.prog X.w) X.A (call (.ref f) us) (EP X pins σ Q) X.xe s := by
  have r2 : Vals (vs ++ dvs) (us ++ ds) := r.append hd
  have hl : (us ++ ds).length = ps.length := by rw [<- r2.length]; exact F.len _ _ _ _ h
  refine wpAny_call (codeAny_mono (F.run X.A X.stack s H ⟨us, []⟩ (us ++ ds) (vs ++ dvs) Q E hr I.I_ (hb s us I.kIn hl) r2 h) fun r s' hq => ?_)
  cases r with
  | error e => exact hx pins σ H s e s' I hq
  | ok fl =>
    cases fl with
    | ret u => exact I.after hq
    | next => exact False.elim hq
    | brk => exact False.elim hq
    | cont => exact False.elim hq
theorem CZ (F : fP X.prog X.w X.K X.mg X.base CX k f fd ps sp) (hr : gX k X.A) (hg : Gl X x) (hm : X.mg x = some (.ref f)) (hk : PySem.W.keepIn X.K (.ref f) = true) (hb : Binds X.K fd ps ds) (hd : Vals dvs ds) (hx : Passes CX X E)
    (ha : PA X (e :: es) t) (hdb : (x == ("__debug__" : Str)) = false := by decide) (he : starEach (e :: es) X.env = (false, eval e X.env) :: starEach es X.env := by rfl) (hpl : (backTo pos (starEach es X.env)).any (·.1) = false := by rfl) :
    PE X (.Call (.Name x p) (e :: es) [] pos) (Gf sp dvs E t) := by
  intro pins s σ H Q I h
  refine wpAny_Call_Name_kw (xi I hg hm ?_ hdb)
  refine PySem.W.callWith_K (h₀ := X.base) I.ok.mod.kin hk (thn (ha pos pins s σ H _ I h) fun us s1 ⟨vs, H1, I1, r, q⟩ => ⟨I1.kIn, ?_⟩) he hpl
  exact ED F hr hb hd hx I1 r q
end
structure aQ (N P : List Str) (sc : Scope) : Prop where
  kind : sc.kind = .function
  co : sc.isCoroutine = false
  gen : sc.isGenerator = false
  nd : N.Nodup
  pre : N.take P.length = P
  par : ∀ x ∈ P, sc.names.lookup x = some .local \/ sc.names.lookup x = some .cell
  FH : ∀ y ∈ sc.names, y.2 ≠ .free
theorem rm {kindOf : Str -> Option NameKind} {x : Str} : ∀ {binds : List (Str × Value)} {m : Str -> Option Value}, (∀ v, (x, v) ∉ binds) -> bindL kindOf binds m x = m x
  | [], _, _ => rfl
  | (n, v) :: r, m, h => by
    unfold bindL
    rw [rm fun w hw => h w (List.mem_cons_of_mem _ hw)]
    split
    · have : x ≠ n := by rintro rfl; exact h v List.mem_cons_self
      simp [this]
    · rfl
theorem rz {kindOf : Str -> Option NameKind} {x : Str} : ∀ {binds : List (Str × Value)} {m : Str -> Option Value}, (∀ v, (x, v) ∉ binds) -> bindC kindOf binds m x = m x
  | [], _, _ => rfl
  | (n, v) :: r, m, h => by
    unfold bindC
    rw [rz fun w hw => h w (List.mem_cons_of_mem _ hw)]
    split
    · rfl
    · have : x ≠ n := by rintro rfl; exact h v List.mem_cons_self
      simp [this]
theorem rA {kindOf : Str -> Option NameKind} {x : Str} {v : Value} : ∀ {P : List Str} {vs : List Value} {i : Nat} {m : Str -> Option Value}, P.Nodup -> P[i]? = some x -> vs[i]? = some v -> kindOf x = some .local →
    bindL kindOf (P.zip vs) m x = some v
  | [], _, _, _, _, h, _, _ => by simp at h
  | _ :: _, [], _, _, _, _, h, _ => by simp at h
  | p :: P, w :: vs, 0, m, nd, h1, h2, hk => by
    simp at h1 h2; subst h1; subst h2
    show bindL kindOf ((p, w) :: P.zip vs) m p = _
    unfold bindL
    rw [rm fun v hv => (List.nodup_cons.mp nd).1 (List.of_mem_zip hv).1, if_pos hk]
    simp
  | p :: P, w :: vs, i + 1, m, nd, h1, h2, hk => by
    show bindL kindOf ((p, w) :: P.zip vs) m x = _
    unfold bindL
    exact rA (i := i) (List.nodup_cons.mp nd).2 (by simpa using h1) (by simpa using h2) hk
theorem qO {kindOf : Str -> Option NameKind} {x : Str} {v : Value} : ∀ {P : List Str} {vs : List Value} {i : Nat} {m : Str -> Option Value}, P.Nodup -> P[i]? = some x -> vs[i]? = some v -> kindOf x ≠ some .local →
    bindC kindOf (P.zip vs) m x = some v
  | [], _, _, _, _, h, _, _ => by simp at h
  | _ :: _, [], _, _, _, _, h, _ => by simp at h
  | p :: P, w :: vs, 0, m, nd, h1, h2, hk => by
    simp at h1 h2; subst h1; subst h2
    show bindC kindOf ((p, w) :: P.zip vs) m p = _
    unfold bindC
    rw [rz fun v hv => (List.nodup_cons.mp nd).1 (List.of_mem_zip hv).1, if_neg hk]
    simp
  | p :: P, w :: vs, i + 1, m, nd, h1, h2, hk => by
    show bindC kindOf ((p, w) :: P.zip vs) m x = _
    unfold bindC
    exact qO (i := i) (List.nodup_cons.mp nd).2 (by simpa using h1) (by simpa using h2) hk
noncomputable def start (N : List Str) (vs : List V) : St := vs.map some ++ List.replicate (N.length - vs.length) none
noncomputable def vM (CX : CXT) (P : Program) (w : World) (K : PySem.W.Frag) (mg : Str -> Option Value) (base : Heap) (N : List Str) (qual : Str) (scope : Scope) (f : Addr) (cd : Value) (A : Around) (outer : List Env) (s : Shared) (H : Hp) (E : XK) : Cx where
  prog := P
  w := w
  K := K
  mg := mg
  base := base
  A := A.deeper (envOfC qual scope s.heap.objs.size f cd)
  N := N
  ay := s
  aB := H
  env := envOfC qual scope s.heap.objs.size f cd
  outer := outer
  stack := envOfC qual scope s.heap.objs.size f cd :: outer
  ex := []
  calm := true
  fn := fun _ => true
  pn := []
  xe := fun e s' => wpAny (model P w) (A.deeper (envOfC qual scope s.heap.objs.size f cd)) (leaving (envOfC qual scope s.heap.objs.size f cd) e) (fun _ s'' => CX outer H s E e s'') (fun e' s'' => CX outer H s E e' s'') s'
theorem t7 {sc : Scope} {n : Nat} {x : Str} (h : sc.names.lookup x = some .cell) : ∃ c, (cellsFrom n sc.names []).lookup x = some c := by
  have q := PySem.W.cellsFrom_some sc.names n [] (.inl h)
  exact Option.isSome_iff_exists.mp q
theorem xR {CX : CXT} {P : Program} {w : World} {K : PySem.W.Frag} {mg : Str -> Option Value} {base : Heap} {N ps : List Str} {qual : Str} {scope : Scope} {f : Addr} {cd : Value} {A : Around} {outer : List Env} {s s1 : Shared} {H : Hp} {E : XK} {us : List Value} {vs : List V}
    (S : aQ N ps scope) (hd : A.handled = none) (e0 : Ce P w K mg base A outer s H) (hl : vs.length = ps.length) (r : Vals vs us)
    (x : InCallC s s.heap.objs.size (bindL (envOfC qual scope s.heap.objs.size f cd).kindOf (ps.zip us) fun _ => none) (cellsFrom (s.heap.objs.size + 1) scope.names []) (bindC (envOfC qual scope s.heap.objs.size f cd).kindOf (ps.zip us) fun _ => none) s1) :
    Inv (vM CX P w K mg base N qual scope f cd A outer s H E) [] (start N vs) H s1 := by
  have hpl : ps.length <= N.length := by have := congrArg List.length S.pre; rw [List.length_take] at this; omega
  obtain ⟨h1, tk, rfl, hk⟩ := x.done
  have noA : ∀ b : Addr, b ∉ (vM CX P w K mg base N qual scope f cd A outer s H E).ex := fun b z => absurd (show b ∈ ([] : List Addr) from z) (by simp)
  refine ⟨⟨e0.mod, S.kind, rfl, rfl, Nat.le_refl _, fun y z c h1 h2 => ?_, fun y hy => ?_, fun y c _ h => ?_, fun _ => hd, Around.frames_deeper e0.frames, .inr ⟨rfl, rfl⟩, fun b z => absurd z (noA b), e0.bs, e0.bsz, fun b _ _ => noA b, fun b z => absurd z (noA b), e0.qd, e0.frf⟩,
    rfl, e0.bare, Un.kept hk, ⟨_, x.toInCall.ns, fun i y v h1 h2 h3 => ?_⟩, fun y c h => ⟨_, x.cell y c h⟩, e0.hok.fresh (Nat.le_refl _), fun y c h => ?_, fun p hp => absurd (show p ∈ ([] : List (Addr × Obj)) from hp) (by simp), e0.hok.kept hk, ?_⟩
  · exact name_of_addr x.apart (PySem.mem_of_lookup h1) (PySem.mem_of_lookup h2)
  · have hy : scope.names.lookup y = some .cell \/ scope.names.lookup y = some .free := hy
    rcases hy with hy | hy
    · exact t7 hy
    · exact absurd rfl (S.FH _ (PySem.mem_of_lookup hy))
  · exact Nat.le_of_lt (x.above y c (PySem.mem_of_lookup h))
  · have hi : i < vs.length := by
      unfold start at h2
      by_cases hi : i < vs.length
      · exact hi
      · rw [List.getElem?_append_right (by simpa using hi)] at h2
        rw [List.getElem?_replicate] at h2
        split at h2 <;> cases h2
    have ha : vs[i]? = some v := by
      unfold start at h2
      rw [List.getElem?_append_left (by simpa using hi), List.getElem?_map] at h2
      cases e : vs[i]? with
      | none => rw [e] at h2; cases h2
      | some a => rw [e] at h2; cases h2; rfl
    obtain ⟨u, hu, rv⟩ := r.get ha
    have hp : ps[i]? = some y := by
      rw [<- S.pre, List.getElem?_take_of_lt (by omega)]; exact h1
    have ndP : ps.Nodup := by rw [<- S.pre]; exact S.nd.sublist (List.take_sublist _ _)
    refine ⟨u, rv, ?_⟩
    rcases S.par y (List.mem_of_getElem? hp) with k | k
    · exact .inl ⟨k, rA ndP hp hu k⟩
    · obtain ⟨c, e⟩ := t7 (n := s.heap.objs.size + 1) k
      refine .inr ⟨.inl k, c, e, ?_⟩
      have q := x.cell y c e
      rw [qO ndP hp hu (by show scope.names.lookup y ≠ _; rw [k]; decide)] at q
      exact q
  · exact e0.hok.fresh (Nat.le_of_lt (x.above y c (PySem.mem_of_lookup h)))
  · unfold start
    show _ = N.length
    rw [List.length_append, List.length_map, List.length_replicate]
    omega
theorem Gr {CX : CXT} {P : Program} {w : World} {K : PySem.W.Frag} {mg : Str -> Option Value} {base : Heap} {k : Nat} {f : Addr} {name qual : Str} {params : Arguments} {body : List Stmt} {scope : Scope} {dV kV doc pm cdv ct oc : Value} {an od : Option Addr}
    {osl : Array (Option Value)} {N ps : List Str} {sp : Sp} (lk : K.lookup f = some ⟨oc, od, .func (PySem.W.fnOf name qual params body scope dV kV doc pm an cdv ct), osl⟩) (hcd : PySem.W.codeIn K cdv qual = true) (S : aQ N ps scope)
    (len : ∀ vs H Q E, sp vs H Q E -> vs.length = ps.length)
    (hbody : ∀ (A : Around) (outer : List Env) (s : Shared) (H : Hp) (vs : List V) (Q : VK) (E : XK), gX k (A.deeper (envOfC qual scope s.heap.objs.size f cdv)) -> sp vs H Q E →
      ∃ t, PSs (vM CX P w K mg base N qual scope f cdv A outer s H E) body t /\ t { nx := fun _ H' => Q .non H', rt := Q } (start N vs) H) :
    fP P w K mg base CX (k + 1) f (PySem.W.fnOf name qual params body scope dV kV doc pm an cdv ct) ps sp := by
  refine ⟨len, fun A outer s H args us vs Q E hr e0 hb r hsp => ?_⟩
  have hl := len _ _ _ _ hsp
  have KX : K.In s.heap := e0.mod.kin.keeps fun b o e => (e0.bs b o e).1
  have lim : s.heap.NoLimit := e0.mod.nolimit.keeps fun b o e => (e0.bs b o e).1
  have hkind : ∀ y ∈ ps.zip us, scope.names.lookup y.1 = some .local \/ (scope.names.lookup y.1 = some .cell /\ ((cellsFrom (s.heap.objs.size + 1) scope.names []).lookup y.1).isSome = true) := fun ⟨n, v⟩ hy => by
    rcases S.par n (List.of_mem_zip hy).1 with q | q
    · exact .inl q
    · exact .inr ⟨q, PySem.W.cellsFrom_some _ _ _ (.inl q)⟩
  refine codeAny_call_function hr.depth (KX _ _ lk) rfl S.co S.gen rfl (PySem.W.codeRec_of KX hcd) (hb _ _ _ _ ?_)
  refine wpAny_newFunctionEnv_cells S.kind hkind fun env he s1 x => ?_
  subst he
  refine ⟨lim.keeps x.toInCall.keep, codeAny_func ?_⟩
  obtain ⟨t, ht, hq⟩ := hbody A outer s H vs Q E (hr.deeper _) hsp
  have I : Inv (vM CX P w K mg base N qual scope f cdv A outer s H E) [] (start N vs) H s1 := xR S hr.hd e0 hl r x
  refine wpAny_mono (ht [] s1 (start N vs) H _ I hq) (fun fl s' hs => ?_) fun e s' hs => hs
  have fin : ∀ {σ' : St} {H' : Hp} {v : V} {u : Value}, Inv (vM CX P w K mg base N qual scope f cdv A outer s H E) [] σ' H' s' -> RelV v u -> Q v H' -> CE outer P w H s Q u s' :=
    fun {σ' H' v u} J rv q => ⟨v, H', J.os, J.bare, J.base, J.hok, rv, q⟩
  cases fl with
  | ret u =>
    obtain ⟨v, σ', H', J, rv, q⟩ := hs
    exact fin J rv q
  | next =>
    obtain ⟨σ', H', J, q⟩ := hs
    exact fin (v := V.non) (u := Value.none) J rfl q
  | brk =>
    obtain ⟨_, _, _, q⟩ := hs
    exact False.elim q
  | cont =>
    obtain ⟨_, _, _, q⟩ := hs
    exact False.elim q
section
variable {X : Cx} {x : Str} {p pos : Pos} {e : Expr} {es : List Expr} {t : TA} {id T : String} {r : List V -> Hp -> VK -> Prop}
noncomputable def tCB (r : List V -> Hp -> VK -> Prop) (t : TA) : TE := fun σ H Q => t σ H fun vs H1 => r vs H1 Q
theorem ux (hc : bO X (.builtin id) r) (hg : Gl X x) (hm : X.mg x = none) (hv : bootBuiltins x = some (.builtin id)) (ha : PA X (e :: es) t) (hn : x ≠ "__name__" := by decide) (hdb : (x == ("__debug__" : Str)) = false := by decide)
    (he : starEach (e :: es) X.env = (false, eval e X.env) :: starEach es X.env := by rfl) (hpl : (backTo pos (starEach es X.env)).any (·.1) = false := by rfl) : PE X (.Call (.Name x p) (e :: es) [] pos) (tCB r t) := by
  intro pins s σ H Q I h
  refine wpAny_Call_Name_kw (iG I hg hm hv ?_ hn hdb)
  exact PyProof.Rows.callWith_builtin1 (thn (ha pos pins s σ H _ I h) fun us s1 ⟨vs, H1, I1, r1, q1⟩ => hc pins s1 σ H1 vs us Q I1 r1 q1) he hpl
theorem mn (hc : bO X (.type T) r) (hg : Gl X x) (hm : X.mg x = none) (hv : bootBuiltins x = some (.type T)) (ha : PA X (e :: es) t) (hn : x ≠ "__name__" := by decide) (hdb : (x == ("__debug__" : Str)) = false := by decide)
    (he : starEach (e :: es) X.env = (false, eval e X.env) :: starEach es X.env := by rfl) (hpl : (backTo pos (starEach es X.env)).any (·.1) = false := by rfl) : PE X (.Call (.Name x p) (e :: es) [] pos) (tCB r t) := by
  intro pins s σ H Q I h
  refine wpAny_Call_Name_kw (iG I hg hm hv ?_ hn hdb)
  exact PyProof.Rows.callWith_type1 (thn (ha pos pins s σ H _ I h) fun us s1 ⟨vs, H1, I1, r1, q1⟩ => hc pins s1 σ H1 vs us Q I1 r1 q1) he hpl
theorem vA (hc : bO X (.type T) r) (hg : Gl X x) (hm : X.mg x = none) (hv : bootBuiltins x = some (.type T)) (hn : x ≠ "__name__" := by decide) (hdb : (x == ("__debug__" : Str)) = false := by decide) :
    PE X (.Call (.Name x p) [] [] pos) (tCB r EJ) := by
  intro pins s σ H Q I h
  refine wpAny_Call_Name_kw (iG I hg hm hv ?_ hn hdb)
  exact PyProof.Rows.callWith_type0 (hc pins s σ H [] [] Q I .nil h)
end
end L2
namespace HT
open PySem PyProof.Rows
section
variable {prog : Program} {w : World} {A : Around} {E : Value -> Shared -> Prop} {s : Shared}
theorem B5 {t b : Addr} {vs ws : List Value} {Q : Value -> Shared -> Prop} (ht : IsTup s.heap t vs.toArray) (hb : IsTup s.heap b ws.toArray) (hv : vs ≠ [])
    (h1 : ws = [] -> Q (.ref t) s) (h2 : ws ≠ [] -> Q (.ref s.heap.objs.size) { s with heap := s.heap.push { cls := .type "tuple", data := .seq (vs ++ ws).toArray } })
    (hsz : vs.length + ws.length <= sizeLine) : wpAny (model prog w) A (binaryOp .Add (.ref t) (.ref b)) Q E s := by
  obtain ⟨⟨cls, dd, data, sl⟩, ho, hc, n, hd⟩ := id ht
  obtain ⟨⟨cls2, dd2, data2, sl2⟩, ho2, hc2, n2, hd2⟩ := id hb
  simp only at hc hd hc2 hd2
  subst hc hd hc2 hd2
  have e : vs.toArray ++ ws.toArray = (vs ++ ws).toArray := by simp
  by_cases hw : ws = []
  · exact concat_meets ⟨_, ho, rfl⟩ ⟨_, ho2, rfl⟩ noFill_tuple_add seq_tuple_add PySem.F.slot_tuple_add PySem.F.entry_tuple_add (PySem.F.args_tuple_add_2 _ _)
      (tuple_addW1 t b vs.toArray ws.toArray n n2 dd dd2 sl sl2 (by simpa using hv) (by simp [hw])) ⟨ho, ho2, h1 hw⟩
  · refine concat_meets ⟨_, ho, rfl⟩ ⟨_, ho2, rfl⟩ noFill_tuple_add seq_tuple_add PySem.F.slot_tuple_add PySem.F.entry_tuple_add (PySem.F.args_tuple_add_2 _ _)
      (tuple_addW2 t b vs.toArray ws.toArray n n2 dd dd2 sl sl2 (by simpa using hv) (by simpa using hw) (by rw [List.size_toArray, List.size_toArray]; exact hsz)) ⟨ho, ho2, ?_⟩
    rw [e]
    exact h2 hw
noncomputable def sIx (n d : Nat) : Option Int -> Nat
  | none => d
  | some v => if v < 0 then (v + (n : Int)).toNat else min v.toNat n
theorem uQ (n d : Nat) : sIx n d none = d := rfl
theorem xg (n d k : Nat) : sIx n d (some (k : Int)) = min k n := by
  show (if (k : Int) < 0 then ((k : Int) + (n : Int)).toNat else min (k : Int).toNat n) = min k n
  rw [if_neg (by omega), Int.toNat_natCast]
theorem Eb (n d : Nat) (hd : d <= n) (o : Option Int) : sIx n d o <= n := by
  cases o with
  | none => exact hd
  | some v =>
    show (if v < 0 then (v + (n : Int)).toNat else min v.toNat n) <= n
    by_cases hv : v < 0
    · rw [if_pos hv]; omega
    · rw [if_neg hv]; exact Nat.min_le_right _ _
theorem wG (v : Int) (n d : Nat) : (if v < 0 then max (v + (n : Int)) 0 else min v (n : Int)) = ((sIx n d (some v) : Nat) : Int) := by
  show (if v < 0 then max (v + (n : Int)) 0 else min v (n : Int)) = (((if v < 0 then (v + (n : Int)).toNat else min v.toNat n) : Nat) : Int)
  by_cases hv : v < 0
  · simp only [if_pos hv]; omega
  · simp only [if_neg hv]; omega
theorem vK (lo hi : Option Int) (n : Nat) : Builtin.Slice.sliceAdjust lo hi 1 (n : Int) = (((sIx n 0 lo : Nat) : Int), ((sIx n n hi : Nat) : Int)) := by
  have h1 : ¬ ((1 : Int) < 0) := by omega
  unfold Builtin.Slice.sliceAdjust
  simp only [h1, if_false]
  refine Prod.ext ?_ ?_
  · cases lo with
    | none => rfl
    | some v => exact wG v n 0
  · cases hi with
    | none => rfl
    | some v => exact wG v n n
theorem vU (i j : Nat) : Builtin.Slice.slicePlaces (i : Int) (j : Int) 1 = j - i := by
  unfold Builtin.Slice.slicePlaces
  have h1 : (1 : Int) > 0 := by omega
  simp only [h1, if_true, Int.ediv_one]
  split <;> omega
theorem oI {v : Value} {o : Option Int} {Q : Option Int -> Shared -> Prop} (p : IsPart v o) (h : Q o s) : wpAny (model prog w) A (Builtin.Slice.slicePartIndex v) Q E s := by
  cases p with
  | none => exact slicePart_none h
  | int i t => exact slicePart_int h
theorem gM {sl : Addr} {vl vu : Value} {lo hi : Option Int} {n : Nat} {Q : Int × Int × Nat -> Shared -> Prop} (hs : s.heap.IsSliceOf sl vl vu .none) (pl : IsPart vl lo) (pu : IsPart vu hi)
    (h : Q (((sIx n 0 lo : Nat) : Int), 1, sIx n n hi - sIx n 0 lo) s) : wpAny (model prog w) A (Builtin.Slice.sliceApplied (.ref sl) (pure (n : Int))) Q E s := by
  obtain ⟨os, hos, hcs, hds⟩ := id hs
  unfold Builtin.Slice.sliceApplied Builtin.Slice.sliceFields
  refine wpAny_bind (wpAny_bind (wpAny_field hos hds (x := vl) rfl (wpAny_bind (wpAny_field hos hds (x := vu) rfl (wpAny_bind (wpAny_field hos hds (x := .none) rfl (wpAny_pure ?_)))))))
  refine wpAny_bind (slicePart_none ?_)
  show wpAny _ _ (if ((1 : Int) == 0) = true then _ else _) _ _ s
  rw [if_neg (by decide)]
  refine wpAny_bind (oI pl (wpAny_bind (oI pu (wpAny_bind (wpAny_pure ?_)))))
  show wpAny _ _ (match Builtin.Slice.sliceAdjust lo hi 1 (n : Int) with | (lo, hi) => pure (lo, (1 : Int), Builtin.Slice.slicePlaces lo hi 1)) _ _ s
  rw [vK lo hi n]
  show wpAny _ _ (pure (((sIx n 0 lo : Nat) : Int), (1 : Int), Builtin.Slice.slicePlaces ((sIx n 0 lo : Nat) : Int) ((sIx n n hi : Nat) : Int) 1)) _ _ s
  rw [vU]
  exact wpAny_pure h
theorem zr (xs : Array Value) (i k : Nat) : ((List.range k).filterMap fun (m : Nat) => xs[((i : Int) + (m : Int) * 1).toNat]?).toArray = ((xs.toList.drop i).take k).toArray := by
  have e : (fun (m : Nat) => xs[((i : Int) + (m : Int) * 1).toNat]?) = fun m => xs[i + m]? := by
    funext m
    have : ((i : Int) + (m : Int) * 1).toNat = i + m := by omega
    rw [this]
  rw [e]
  have := pick_run xs i k
  rw [List.filterMap_map] at this
  have e2 : ((fun x => xs[x]?) ∘ fun x => i + x) = fun m => xs[i + m]? := rfl
  rw [e2] at this
  rw [this]
theorem k6 {t sl : Addr} {items : Array Value} {vl vu : Value} {lo hi : Option Int} {Q : Value -> Shared -> Prop} (ht : IsTup s.heap t items) (hs : s.heap.IsSliceOf sl vl vu .none) (pl : IsPart vl lo) (pu : IsPart vu hi)
    (hw : ¬ (sIx items.size 0 lo = 0 /\ sIx items.size items.size hi = items.size))
    (h : Q (.ref s.heap.objs.size) { s with heap := s.heap.push { cls := .type "tuple", data := .seq ((items.toList.drop (sIx items.size 0 lo)).take (sIx items.size items.size hi - sIx items.size 0 lo)).toArray } })
    (hsz : items.size <= sizeLine) : wpAny (model prog w) A (getItem (.ref t) (.ref sl)) Q E s := by
  have htake : sizeOk (.seq ((items.toList.drop (sIx items.size 0 lo)).take (sIx items.size items.size hi - sIx items.size 0 lo)).toArray) := by
    show ((items.toList.drop (sIx items.size 0 lo)).take (sIx items.size items.size hi - sIx items.size 0 lo)).toArray.size <= sizeLine
    rw [List.size_toArray, List.length_take, List.length_drop, Array.length_toList]
    omega
  have hj : sIx items.size items.size hi <= items.size := Eb _ _ (Nat.le_refl _) hi
  obtain ⟨os, hos, hcs, hds⟩ := id hs
  have hTs : s.TypeIs (.ref sl) "slice" := ⟨os, hos, hcs⟩
  unfold getItem
  try with_reducible refine wpAny_holding ?_
  first | refine wpAny_bind (wpAny_pure ?_) | skip
  refine wpAny_bind (wpAny_sequenceKey ht.typeIs (by decide) ?_)
  refine wpAny_bind (wpAny_callSpecial?_slot (name := Str.ofString "__getitem__") ht.typeIs PyProof.Rows.slot_tuple_getitem
    (wpAny_call_entry PyProof.Rows.slot_tuple_getitem ht.typeIs entry_tuple_getitem ?_ (args_tuple_getitem _ _)))
  show wpAny _ _ (Builtin.Tuple.tupleItemsOf (.ref t) >>= _) _ _ s
  refine wpAny_bind (tupleItemsOf_ ht ?_)
  refine wpAny_bind (wpAny_typeOf hTs ?_)
  rw [if_pos (by decide)]
  refine wpAny_bind (gM hs pl pu ?_)
  have hno : ¬ ((((sIx items.size 0 lo : Nat) : Int) == 0 && (1 : Int) == 1 && (sIx items.size items.size hi - sIx items.size 0 lo) == items.size) = true) := by
    intro q
    rw [Bool.and_eq_true, Bool.and_eq_true] at q
    have q1 : ((sIx items.size 0 lo : Nat) : Int) = 0 := eq_of_beq q.1.1
    have q2 : sIx items.size items.size hi - sIx items.size 0 lo = items.size := eq_of_beq q.2
    exact hw ⟨by omega, by omega⟩
  show wpAny _ _ (if (((sIx items.size 0 lo : Nat) : Int) == 0 && (1 : Int) == 1 && (sIx items.size items.size hi - sIx items.size 0 lo) == items.size) = true then _ else _) _ _ s
  rw [if_neg hno, zr]
  first
    | exact wpAny_bind (m := Builtin.Tuple.tupleExact _) (wpAny_newObj_type (wpAny_pure ⟨_, rfl, wpAny_pure h⟩) htake)
    | exact wpAny_bind (m := Builtin.Tuple.tupleExact _) (wpAny_newObj_type (wpAny_bind (wpAny_pure (wpAny_pure ⟨_, rfl, wpAny_pure h⟩))) htake)
    | exact wpAny_bind (wpAny_bind (m := Builtin.Tuple.tupleExact _) (wpAny_newObj_type (wpAny_pure (wpAny_pure ⟨_, rfl, wpAny_pure h⟩)) htake))
    | exact wpAny_bind (wpAny_bind (m := Builtin.Tuple.tupleExact _) (wpAny_newObj_type (wpAny_pure ⟨_, rfl, wpAny_pure h⟩) htake))
end
end HT
namespace L2
open PySem PySem.Spec PyProof.Rows
noncomputable abbrev TO := St -> Hp -> (Option Int -> Hp -> Prop) -> Prop
noncomputable def PO (X : Cx) (e : Option Expr) (t : TO) : Prop :=
  ∀ (pins : List (Addr × Obj)) (s : Shared) (σ : St) (H : Hp) (Q : Option Int -> Hp -> Prop), Inv X pins σ H s -> t σ H Q →
    wpAny (model X.prog X.w) X.A (evalPart e X.env) (fun u s' => ∃ o H', Inv X pins σ H' s' /\ IsPart u o /\ Q o H') X.xe s
noncomputable def DB : TO := fun _ H Q => Q none H
noncomputable def F6 (t : TE) : TO := fun σ H Q => t σ H fun x H1 => ∃ i, x = .int i /\ Q (some i) H1
theorem intsAre_of {ns : List Int} : ∀ {us : List Value}, Vals (ns.map V.int) us -> IntsAre us ns := by
  induction ns with
  | nil => intro us r; rw [List.map_nil] at r; cases r; exact .nil
  | cons n ns ih =>
    intro us r
    rw [List.map_cons] at r
    cases r with
    | cons r1 r2 =>
      obtain ⟨t, e⟩ := r1
      subst e
      exact .cons n t (ih r2)
section
variable {X : Cx} {e : Expr} {te : TE} {lo hi : Option Expr} {tl th : TO} {pos p2 : Pos}
theorem CN : PO X none DB := by
  intro pins s σ H Q I h
  rw [evalPart_none]
  exact wpAny_pure ⟨none, H, I, .none, h⟩
theorem CV (h : PE X e te) : PO X (some e) (F6 te) := by
  intro pins s σ H Q I hw
  rw [evalPart_some]
  refine thn (h pins s σ H _ I hw) fun u s1 ⟨x, H1, I1, r1, q1⟩ => ?_
  obtain ⟨i, rfl, q⟩ := q1
  obtain ⟨t, rfl⟩ := r1
  exact ⟨some i, H1, I1, .int i t, q⟩
noncomputable def SlR (X : Cx) (r : V -> Option Int -> Option Int -> Hp -> VK -> Prop) : Prop :=
  ∀ (pins : List (Addr × Obj)) (s : Shared) (σ : St) (H : Hp) (x : V) (v vl vu : Value) (lo hi : Option Int) (sl : Addr) (Q : VK), Inv X pins σ H s -> RelV x v -> s.heap.IsSliceOf sl vl vu .none -> IsPart vl lo -> IsPart vu hi -> r x lo hi H Q →
    ∃ T id, typeLookup (.type T) "__getitem__" = pure (some (.builtin id)) /\ s.TypeIs v T /\ wpAny (model X.prog X.w) X.A (getItem v (.ref sl)) (EP X pins σ Q) X.xe s
theorem SlR.or {r r' : V -> Option Int -> Option Int -> Hp -> VK -> Prop} (h : SlR X r) (h' : SlR X r') : SlR X (fun x lo hi H Q => r x lo hi H Q \/ r' x lo hi H Q) := by
  intro pins s σ H x v vl vu lo hi sl Q I rx hs pl pu q
  rcases q with q | q
  · exact h pins s σ H x v vl vu lo hi sl Q I rx hs pl pu q
  · exact h' pins s σ H x v vl vu lo hi sl Q I rx hs pl pu q
noncomputable def tSl (r : V -> Option Int -> Option Int -> Hp -> VK -> Prop) (te : TE) (tl th : TO) : TE := fun σ H Q => te σ H fun x H1 => tl σ H1 fun l H2 => th σ H2 fun u H3 => r x l u H3 Q
theorem AB {r : V -> Option Int -> Option Int -> Hp -> VK -> Prop} (hr : SlR X r) (he : PE X e te) (hl : PO X lo tl) (hu : PO X hi th) : PE X (.Subscript e (.Slice lo hi none p2) pos) (tSl r te tl th) := by
  intro pins s σ H Q I h
  refine Subscript_ (thn (he pins s σ H _ I h) fun v s1 ⟨x, H1, I1, r1, q1⟩ => ?_)
  refine wpAny_Slice (thn (hl pins s1 σ H1 _ I1 q1) fun vl s2 ⟨l, H2, I2, pl, q2⟩ => thn (hu pins s2 σ H2 _ I2 q2) fun vu s3 ⟨u, H3, I3, pu, q3⟩ => ?_)
  rw [evalPart_none]
  refine wpAny_pure ?_
  have I4 : Inv X pins σ H3 { s3 with heap := s3.heap.push { cls := .type "slice", data := .fields #[vl, vu, .none] } } := I3.kept (t' := s3.toks) fun b ob q => Heap.get?_push_of_some _ q
  obtain ⟨T, id, hT, ht, hg⟩ := hr pins { s3 with heap := s3.heap.push { cls := .type "slice", data := .fields #[vl, vu, .none] } } σ H3 x v vl vu l u s3.heap.objs.size Q I4 r1 (Heap.IsSliceOf.new ..) pl pu q3
  show wpAny (model X.prog X.w) X.A (subscriptTail e (.Slice lo hi none p2) v (.ref s3.heap.objs.size)) (EP X pins σ Q) X.xe { s3 with heap := s3.heap.push { cls := .type "slice", data := .fields #[vl, vu, .none] } }
  exact tail_any (ops := [.ref s3.heap.objs.size, v]) ht hT hg (by with_unfolding_all rfl)
noncomputable def ql (xs : List V) (lo hi : Option Int) : List V := (xs.drop (HT.sIx xs.length 0 lo)).take (HT.sIx xs.length xs.length hi - HT.sIx xs.length 0 lo)
theorem mO (xs : List V) (lo hi : Option Int) : (ql xs lo hi).length <= xs.length := by
  unfold ql
  rw [List.length_take, List.length_drop]
  omega
noncomputable def HN (K : PySem.W.Frag) : V -> Option Int -> Option Int -> Hp -> VK -> Prop := fun x lo hi H Q => ∃ a xs, x = .ref a /\ SqT K H a xs ∧
  ¬ (HT.sIx xs.length 0 lo = 0 /\ HT.sIx xs.length xs.length hi = xs.length) /\ ∀ p, H p = none -> Q (.ref p) (upd H p (.tup (ql xs lo hi)))
theorem Fj : SlR X (HN X.K) := by
  intro pins s σ H x v vl vu lo hi sl Q I rx hs pl pu h
  obtain ⟨a, xs, rfl, hx, hw, q⟩ := h
  cases rx
  obtain ⟨its, r, ht, hz⟩ := I.tuple hx
  have hlen : its.toArray.size = xs.length := by rw [List.size_toArray]; exact r.length.symm
  refine ⟨"tuple", _, PyProof.Rows.slot_tuple_getitem.lookup, ht.typeIs, ?_⟩
  refine HT.k6 ht hs pl pu (by rw [hlen]; exact hw) ?_ (by rw [hlen]; exact hz)
  rw [hlen]
  refine ⟨.ref s.heap.objs.size, _, I.laid (t' := s.toks) (o := .tup (ql xs lo hi)) (fun b ob q => Heap.get?_push_of_some _ q) (Nat.le_refl _) ?_, rfl, q _ (I.hok.fresh (Nat.le_refl _))⟩
  exact ⟨Nat.le_trans (mO xs lo hi) hz, _, (r.drop (HT.sIx xs.length 0 lo)).take (HT.sIx xs.length xs.length hi - HT.sIx xs.length 0 lo), lx.new _ _⟩
noncomputable def DV (K : PySem.W.Frag) : R2 := fun x y H Q => ∃ a b xs ys, x = .ref a /\ y = .ref b /\ SqT K H a xs /\ SqT K H b ys /\ xs ≠ [] /\ xs.length + ys.length <= sizeLine ∧
  (ys = [] -> Q (.ref a) H) /\ (ys ≠ [] -> ∀ p, H p = none -> Q (.ref p) (upd H p (.tup (xs ++ ys))))
theorem Vals.sQ {xs : List V} {us : List Value} (r : Vals xs us) : us = [] ↔ xs = [] := by
  cases r with
  | nil => simp
  | cons _ _ => simp
theorem Cm : OpR X (binaryOp .Add) (DV X.K) := by
  intro pins s σ H x y v u Q I rx ry h
  obtain ⟨a, b, xs, ys, rfl, rfl, ha, hb, hx, hz, q1, q2⟩ := h
  cases rx
  cases ry
  obtain ⟨its, r1, p1, _⟩ := I.tuple ha
  obtain ⟨its2, r2, p2, _⟩ := I.tuple hb
  refine HT.B5 p1 p2 (fun z => hx (r1.sQ.mp z)) (fun z => ⟨.ref a, H, I, rfl, q1 (r2.sQ.mp z)⟩) (fun z => ?_) (by rw [<- r1.length, <- r2.length]; exact hz)
  refine ⟨.ref s.heap.objs.size, _, I.laid (t' := s.toks) (o := .tup (xs ++ ys)) (fun b ob q => Heap.get?_push_of_some _ q) (Nat.le_refl _) ?_, rfl, q2 (fun w => z (r2.sQ.mpr w)) _ (I.hok.fresh (Nat.le_refl _))⟩
  exact ⟨by rw [List.length_append]; exact hz, _, r1.append r2, lx.new _ _⟩
end
noncomputable def ixN (n : Nat) (i : Int) : Option Nat := if 0 <= i then (if i < n then some i.toNat else none) else if -(n : Int) <= i then some (i + n).toNat else none
noncomputable def atI {α : Type} (xs : List α) (i : Int) : Option α := (ixN xs.length i).bind fun j => xs[j]?
theorem tG {n : Nat} {i : Int} {j : Nat} (h : ixN n i = some j) : seqIndex? i n = some j /\ j < n /\ -(n : Int) <= i /\ i < n := by
  unfold ixN at h
  by_cases h0 : 0 <= i
  · rw [if_pos h0] at h
    by_cases h1 : i < n
    · rw [if_pos h1] at h
      have e : i.toNat = j := Option.some.inj h
      exact ⟨by rw [seqIndex_of h0 h1, e], by omega, by omega, h1⟩
    · rw [if_neg h1] at h; cases h
  · rw [if_neg h0] at h
    by_cases h1 : -(n : Int) <= i
    · rw [if_pos h1] at h
      have e : (i + n).toNat = j := Option.some.inj h
      exact ⟨by rw [seqIndex_neg (by omega) h1, e], by omega, h1, by omega⟩
    · rw [if_neg h1] at h; cases h
theorem nQ {α : Type} {xs : List α} {i : Int} {v : α} (h : atI xs i = some v) : ∃ j, seqIndex? i xs.length = some j /\ xs[j]? = some v /\ j < xs.length /\ -(xs.length : Int) <= i /\ i < xs.length := by
  unfold atI at h
  cases e : ixN xs.length i with
  | none => rw [e] at h; cases h
  | some j =>
    rw [e] at h
    obtain ⟨h1, h2, h3, h4⟩ := tG e
    exact ⟨j, h1, h, h2, h3, h4⟩
theorem Dg {α : Type} {xs : List α} {j : Nat} {v : α} (h : xs[j]? = some v) : atI xs (j : Int) = some v := by
  have hj : j < xs.length := (List.getElem?_eq_some_iff.mp h).1
  have e : ixN xs.length (j : Int) = some j := by
    unfold ixN
    rw [if_pos (by omega), if_pos (by omega)]; simp
  unfold atI; rw [e]; exact h
noncomputable def xu (b : Expr) : Prop := ∀ o i, subscripted b false o i = operate [o, i] (getItem o i)
noncomputable def IxR (X : Cx) (r : R2) : Prop :=
  ∀ (value slice : Expr) (pins : List (Addr × Obj)) (s : Shared) (σ : St) (H : Hp) (x y : V) (v u : Value) (Q : VK), Inv X pins σ H s -> RelV x v -> RelV y u -> r x y H Q →
    subscripted slice false v u = operate [v, u] (getItem v u) -> wpAny (model X.prog X.w) X.A (subscriptTail value slice v u) (EP X pins σ Q) X.xe s
noncomputable def MtR (X : Cx) (id : String) (r : V -> List V -> Hp -> VK -> Prop) : Prop :=
  ∀ (pins : List (Addr × Obj)) (s : Shared) (σ : St) (H : Hp) (x : V) (xs : List V) (v : Value) (us : List Value) (Q : VK), Inv X pins σ H s -> RelV x v -> Vals xs us -> r x xs H Q →
    wpAny (model X.prog X.w) X.A (call (.builtin id) (v :: us)) (EP X pins σ Q) X.xe s
section
variable {X : Cx} {a b : Expr} {ta tb : TE} {pos : Pos}
theorem IxR.or {r r' : R2} (h : IxR X r) (h' : IxR X r') : IxR X (fun x y H Q => r x y H Q \/ r' x y H Q) := by
  intro value slice pins s σ H x y v u Q I rx ry q hs
  rcases q with q | q
  · exact h value slice pins s σ H x y v u Q I rx ry q hs
  · exact h' value slice pins s σ H x y v u Q I rx ry q hs
theorem Ga {r : R2} (hr : IxR X r) (ha : PE X a ta) (hb : PE X b tb) (hs : xu b) : PE X (.Subscript a b pos) (tOp r ta tb) := by
  intro pins s σ H Q I h
  exact Subscript_ (E9 ha hb I h fun v u s2 x y H2 I2 rx ry q => hr a b pins s2 σ H2 x y v u Q I2 rx ry q (hs _ _))
noncomputable def EG (K : PySem.W.Frag) : R2 := fun x y H Q => ∃ p xs i v, x = .ref p /\ y = .int i /\ SqL K H p xs /\ atI xs i = some v /\ Q v H
noncomputable def G8 (K : PySem.W.Frag) : R2 := fun x y H Q => ∃ p xs i v, x = .ref p /\ y = .int i /\ SqT K H p xs /\ atI xs i = some v /\ Q v H
noncomputable def GL : R2 := fun x y H Q => ∃ z i c, x = .str z /\ y = .int i /\ z.length <= sizeLine /\ atI z.cps.toList i = some c /\ Q (.str ⟨#[c]⟩) H
theorem CP : IxR X (EG X.K) := by
  intro value slice pins s σ H x y v u Q I rx ry h hs
  obtain ⟨p, xs, i, z, rfl, rfl, hq, he, q⟩ := h
  cases rx
  obtain ⟨t, rfl⟩ := ry
  obtain ⟨its, r, pl, hz⟩ := I.list hq
  obtain ⟨j, h1, h2, h3, h4, h5⟩ := nQ he
  obtain ⟨w, ew, rw'⟩ := r.get h2
  have hl := r.length
  have hn := ju
  have fin : EP X pins σ Q w s := ⟨z, H, I, rw', q⟩
  by_cases h0 : 0 <= i
  · have hj : i.toNat = j := by
      rw [seqIndex_of h0 h5] at h1
      exact Option.some.inj h1
    exact item_listR pl.isList h0 (by omega) (by rw [hj]; simpa using ew) fin hs
  · have hj : (i + (its.toArray.size : Int)).toNat = j := by
      rw [seqIndex_neg (by omega) h4] at h1
      rw [List.size_toArray, <- hl]
      exact Option.some.inj h1
    exact subscriptTail_builtinR (x := w) pl.isList.typeIs slot_list_getitem.lookup
      (wpAny_getItem_list_neg (Q := fun r s' => r = w /\ EP X pins σ Q r s') pl.isList (by omega) (by rw [List.size_toArray] <;> omega) (by omega) (by rw [hj]; simpa using ew) ⟨rfl, fin⟩) hs
theorem FF : IxR X (G8 X.K) := by
  intro value slice pins s σ H x y v u Q I rx ry h hs
  obtain ⟨p, xs, i, z, rfl, rfl, hq, he, q⟩ := h
  cases rx
  obtain ⟨t, rfl⟩ := ry
  obtain ⟨its, r, pl, hz⟩ := I.tuple hq
  obtain ⟨j, h1, h2, h3, h4, h5⟩ := nQ he
  obtain ⟨w, ew, rw'⟩ := r.get h2
  have hl := r.length
  have hn := ju
  have fin : EP X pins σ Q w s := ⟨z, H, I, rw', q⟩
  exact subscriptTail_builtinR (x := w) pl.typeIs slot_tuple_getitem.lookup
    (getItem_tuple (j := j) (Q := fun r s' => r = w /\ EP X pins σ Q r s') pl (by omega) (by omega) (by rw [List.size_toArray, <- hl]; exact h1) (by simpa using ew) ⟨rfl, fin⟩) hs
theorem EU : IxR X GL := by
  intro value slice pins s σ H x y v u Q I rx ry h hs
  obtain ⟨z, i, c, rfl, rfl, hz, he, q⟩ := h
  obtain ⟨t, rfl⟩ := rx
  obtain ⟨t', rfl⟩ := ry
  obtain ⟨j, h1, h2, h3, h4, h5⟩ := nQ he
  have hl : z.cps.toList.length = z.length := by simp [Str.length]
  rw [hl] at h1 h4 h5
  have hn := ju
  exact tail_any (typeIs_str s z t) slot_str_getitem.lookup (getItem_str (c := c) (by
    have e1 : decide (i < -(2 ^ 63 : Int)) = false := decide_eq_false (by omega)
    have e2 : decide (i ≥ 2 ^ 63) = false := decide_eq_false (by omega)
    rw [e1, e2, Bool.or_false]) (by rw [h1]; simpa using h2) ⟨.str ⟨#[c]⟩, H, I.tok _, ⟨_, rfl⟩, q⟩) hs
noncomputable def rIx (K : PySem.W.Frag) : R2 := fun x y H Q => EG K x y H Q \/ G8 K x y H Q \/ GL x y H Q
theorem bp : IxR X (rIx X.K) := CP.or (FF.or EU)
theorem vS (its : List Value) (n j : Nat) (u : Value) : Obj.mapSeq (·.setIfInBounds j u) { cls := .type "list", data := .seq its.toArray n } = { cls := .type "list", data := .seq (its.set j u).toArray n } := by
  simp [Obj.mapSeq]
theorem Inv.lst {pins : List (Addr × Obj)} {σ : St} {H : Hp} {s : Shared} {p : Addr} {xs : List V} (I : Inv X pins σ H s) (h : H p = some (.lst xs)) :
    ∃ (its : List Value) (n : Nat), Vals xs its /\ s.heap.get? p = some { cls := .type "list", data := .seq its.toArray n } /\ xs.length <= sizeLine := by
  obtain ⟨z, its, n, r, e⟩ := I.hok p _ h
  exact ⟨its, n, r, e, z⟩
theorem Inv.Ft {pins : List (Addr × Obj)} {σ : St} {H : Hp} {s : Shared} {p : Addr} {xs ys : List V} {its its' : List Value} {n n' : Nat} {f : Obj -> Obj} (I : Inv X pins σ H s) (h : H p = some (.lst xs))
    (ho : s.heap.get? p = some { cls := .type "list", data := .seq its.toArray n }) (hf : f { cls := .type "list", data := .seq its.toArray n } = { cls := .type "list", data := .seq its'.toArray n' }) (r : Vals ys its') (hz : ys.length <= sizeLine) (t : Nat) :
    Inv X pins σ (upd H p (.lst ys)) { s with heap := s.heap.update p f, toks := t } := by
  have e : (s.heap.update p f).get? p = some { cls := .type "list", data := .seq its'.toArray n' } := by
    rw [Heap.get?_update_self f ho (by rw [hf] <;> rfl), hf]
  refine I.write (x := p) (e := p) (by rw [h]; trivial) (.inl rfl) (fun b u hb q => (Heap.get?_update_other _ _ (Ne.symm hb)).trans q) ⟨_, e⟩ ?_
  exact ⟨hz, its', n', r, e⟩
noncomputable def DK : V -> V -> V -> Hp -> (Hp -> Prop) -> Prop := fun o i v H Q => ∃ p xs k j, o = .ref p /\ i = .int k /\ H p = some (.lst xs) /\ ixN xs.length k = some j /\ Q (upd H p (.lst (xs.set j v)))
theorem set_list : Dt X DK := by
  intro pins s σ H o i v ov iv u Q I ro ri rv h
  obtain ⟨p, xs, k, j, rfl, rfl, hp, hj, q⟩ := h
  cases ro
  obtain ⟨t, rfl⟩ := ri
  obtain ⟨its, n, r, ho, hz⟩ := I.lst hp
  obtain ⟨h1, h2, h3, h4⟩ := tG hj
  have hl := r.length
  have hn := ju
  have I' : Inv X pins σ (upd H p (.lst (xs.set j v))) { s with heap := s.heap.update p (Obj.mapSeq (·.setIfInBounds j u)) } :=
    I.Ft hp ho (vS its n j u) (r.set rv j) (by rw [List.length_set]; exact hz) s.toks
  by_cases h0 : 0 <= k
  · have hk : k.toNat = j := by
      rw [seqIndex_of h0 h4] at h1
      exact Option.some.inj h1
    exact PySem.W.ki_setAt ho h0 (by omega) (by rw [List.size_toArray, <- hl]; exact h4) (by rw [hk]; exact ⟨_, I', q⟩)
  · have hk : (k + (its.toArray.size : Int)).toNat = j := by
      rw [seqIndex_neg (by omega) h3] at h1
      rw [List.size_toArray, <- hl]
      exact Option.some.inj h1
    exact PySem.W.ki_setBack ho (by omega) (by rw [List.size_toArray, <- hl]; exact h3) (by omega) (by rw [hk]; exact ⟨_, I', q⟩)
theorem s_ (lo hi : Option Int) (n : Nat) : (sliceBounds lo hi none n).1 = ((HT.sIx n 0 lo : Nat) : Int) /\ (sliceBounds lo hi none n).2.1 = ((HT.sIx n n hi : Nat) : Int) /\ (sliceBounds lo hi none n).2.2 = 1 := by
  refine ⟨?_, ?_, rfl⟩
  · cases lo with
    | none => simp [sliceBounds, HT.sIx]
    | some i =>
      simp only [sliceBounds, HT.sIx, Option.getD_none, show (1 : Int) > 0 by decide, if_true]
      by_cases h : i < 0
      · simp only [h, if_true] <;> omega
      · simp only [h, if_false] <;> omega
  · cases hi with
    | none => simp [sliceBounds, HT.sIx]
    | some i =>
      simp only [sliceBounds, HT.sIx, Option.getD_none, show (1 : Int) > 0 by decide, if_true]
      by_cases h : i < 0
      · simp only [h, if_true] <;> omega
      · simp only [h, if_false] <;> omega
theorem qK (its : List Value) (lo hi : Option Int) : slicePick its.toArray lo hi none = ((its.drop (HT.sIx its.length 0 lo)).take (HT.sIx its.length its.length hi - HT.sIx its.length 0 lo)).toArray := by
  obtain ⟨h1, h2, h3⟩ := s_ lo hi its.toArray.size
  unfold slicePick
  rw [h1, h2, h3]
  simp only [sliceRange_one, pick_run, List.size_toArray] <;> rfl
noncomputable def IP (K : PySem.W.Frag) : V -> Option Int -> Option Int -> Hp -> VK -> Prop := fun x lo hi H Q => ∃ a xs, x = .ref a /\ SqL K H a xs /\ ∀ p, H p = none -> Q (.ref p) (upd H p (.lst (ql xs lo hi)))
theorem CS : SlR X (IP X.K) := by
  intro pins s σ H x v vl vu lo hi sl Q I rx hs pl pu h
  obtain ⟨a, xs, rfl, hx, q⟩ := h
  cases rx
  obtain ⟨its, r, ht, hz⟩ := I.list hx
  have hlen := r.length
  refine ⟨"list", _, slot_list_getitem.lookup, ht.isList.typeIs, ?_⟩
  refine wpAny_getItem_list_slice ht.isList hs pl pu .none (by simp) ?_ (by rw [List.size_toArray] <;> omega)
  rw [qK, <- hlen]
  refine ⟨.ref s.heap.objs.size, _, I.laid (t' := s.toks) (o := .lst (ql xs lo hi)) (fun b ob q => Heap.get?_push_of_some _ q) (Nat.le_refl _) ?_, rfl, q _ (I.hok.fresh (Nat.le_refl _))⟩
  exact ⟨Nat.le_trans (mO xs lo hi) hz, _, 0, (r.drop (HT.sIx xs.length 0 lo)).take (HT.sIx xs.length xs.length hi - HT.sIx xs.length 0 lo), Heap.get?_push_size _ rfl⟩
theorem r6 : bO X (.builtin "len") (fun xs H Q => ∃ p ys, xs = [.ref p] /\ (SqL X.K H p ys \/ SqT X.K H p ys) /\ Q (.int ys.length) H) := by
  intro pins s σ H xs us Q I r h
  obtain ⟨p, ys, rfl, hq, q⟩ := h
  obtain ⟨u, rfl, rx⟩ := vals1 r
  cases rx
  have hn := ju
  rcases hq with hq | hq
  · obtain ⟨its, r', pl, hz⟩ := I.list hq
    have hlen := r'.length
    exact Calls.call_len_list pl.isList (by simp only [List.size_toArray] <;> omega) ⟨.int ys.length, H, I.tok _, ⟨s.toks + 1, by rw [List.size_toArray, hlen]⟩, q⟩
  · obtain ⟨its, r', pl, hz⟩ := I.tuple hq
    have hlen := r'.length
    exact len_tuple pl (by simp only [List.size_toArray] <;> omega) ⟨.int ys.length, H, I.tok _, ⟨s.toks + 1, by rw [List.size_toArray, hlen]⟩, q⟩
theorem tB : bO X (.builtin "len") (fun xs H Q => ∃ z, xs = [.str z] /\ z.length <= sizeLine /\ Q (.int z.length) H) := by
  intro pins s σ H xs us Q I r h
  obtain ⟨z, rfl, hz, q⟩ := h
  obtain ⟨u, rfl, t, rfl⟩ := vals1 r
  have hn := ju
  exact len_str (by omega) ⟨.int z.length, H, I.tok _, ⟨_, rfl⟩, q⟩
theorem bO.or {f : Value} {r r' : List V -> Hp -> VK -> Prop} (h : bO X f r) (h' : bO X f r') : bO X f (fun xs H Q => r xs H Q \/ r' xs H Q) := by
  intro pins s σ H xs us Q I rs q
  rcases q with q | q
  · exact h pins s σ H xs us Q I rs q
  · exact h' pins s σ H xs us Q I rs q
theorem bR : bO X (.type "tuple") (fun xs H Q => ∃ p ys, xs = [.ref p] /\ ((SqL X.K H p ys /\ ∀ l, H l = none -> Q (.ref l) (upd H l (.tup ys))) \/ (SqT X.K H p ys /\ Q (.ref p) H))) := by
  intro pins s σ H xs us Q I r h
  obtain ⟨p, ys, rfl, h⟩ := h
  obtain ⟨u, rfl, rx⟩ := vals1 r
  cases rx
  rcases h with ⟨hq, q⟩ | ⟨hq, q⟩
  · obtain ⟨its, r', pl, hz⟩ := I.list hq
    have hlen := r'.length
    refine call_tuple_list pl.isList (fun h' kp => ?_) (by simp only [List.size_toArray] <;> omega)
    have I1 : Inv X pins σ H { s with heap := h' } := I.kept (t' := s.toks) kp
    have I2 : Inv X pins σ (upd H h'.objs.size (.tup ys)) { s with heap := h'.push { cls := .type "tuple", data := .seq its.toArray } } :=
      I1.laid (t' := s.toks) (fun b o e => Heap.get?_push_of_some _ e) (Nat.le_refl _) (show cK X.prog X.w _ _ _ (.tup ys) from ⟨hz, its, r', lx.new _ _⟩)
    exact ⟨.ref h'.objs.size, _, I2, rfl, q _ (I1.hok.fresh (Nat.le_refl _))⟩
  · obtain ⟨its, r', pl, hz⟩ := I.tuple hq
    exact call_tuple_same pl ⟨.ref p, H, I, rfl, q⟩
noncomputable def tyV (K : PySem.W.Frag) (T : String) (x : V) (H : Hp) : Prop := match x with
  | .str _ => T = "str"
  | .int _ => T = "int"
  | .ref p => (T = "list" /\ ∃ xs, SqL K H p xs) \/ (T = "tuple" /\ ∃ o, K.lookup p = some o /\ o.cls = .type "tuple" /\ o.dict = none) ∨
      (T = "dict" /\ ((∃ kvs, H p = some (.dK kvs)) \/ ∃ kvs, H p = some (.dT kvs))) \/ (T = "set" /\ ∃ S n, H p = some (.set S n)) \/ (T = "tuple" /\ ∃ xs, H p = some (.tup xs))
  | _ => False
theorem EF {pins : List (Addr × Obj)} {σ : St} {H : Hp} {s : Shared} {T : String} {x : V} {v : Value} (I : Inv X pins σ H s) (r : RelV x v) (ty : tyV X.K T x H) :
    s.TypeIs v T /\ ∀ a, v = .ref a -> ∃ ob, s.heap.get? a = some ob /\ ob.dict = none := by
  cases x with
  | str z =>
    obtain ⟨t, rfl⟩ := r
    cases (show T = "str" from ty)
    exact ⟨typeIs_str s z t, fun _ e => nomatch e⟩
  | int i =>
    obtain ⟨t, rfl⟩ := r
    cases (show T = "int" from ty)
    exact ⟨typeIs_int s i t, fun _ e => nomatch e⟩
  | ref p =>
    cases r
    rcases ty with ⟨rfl, xs, hq⟩ | ⟨rfl, o, hk, hc, hd⟩ | ⟨rfl, hk⟩ | ⟨rfl, S, n, hk⟩ | ⟨rfl, xs, hk⟩
    · obtain ⟨its, _, pl, _⟩ := I.list hq
      refine ⟨pl.isList.typeIs, fun a e => ?_⟩
      cases e
      obtain ⟨o, n, e, c, hd, _⟩ := pl
      exact ⟨o, e, hd⟩
    · refine ⟨⟨o, I.kIn p o hk, hc⟩, fun a e => ?_⟩
      cases e
      exact ⟨o, I.kIn _ o hk, hd⟩
    · have z : ∃ o, s.heap.get? p = some o /\ o.ExactDict := by
        rcases hk with ⟨kvs, hk⟩ | ⟨kvs, hk⟩
        · obtain ⟨_, _, _, _, o, _, _, e, ex, _⟩ := I.hok p _ hk
          exact ⟨o, e, ex⟩
        · obtain ⟨_, _, _, _, o, _, _, e, ex, _⟩ := I.hok p _ hk
          exact ⟨o, e, ex⟩
      obtain ⟨o, e, ex⟩ := z
      refine ⟨⟨o, e, ex.1⟩, fun a e2 => ?_⟩
      cases e2
      exact ⟨o, e, ex.2.1⟩
    · obtain ⟨o, _, _, _, e, ex, _⟩ := I.hok p _ hk
      refine ⟨⟨o, e, ex.1⟩, fun a e2 => ?_⟩
      cases e2
      exact ⟨o, e, ex.2.1⟩
    · obtain ⟨_, _, _, o, e, ⟨c, _⟩, hd⟩ := I.hok p _ hk
      refine ⟨⟨o, e, c⟩, fun a e2 => ?_⟩
      cases e2
      exact ⟨o, e, hd⟩
  | _ => exact False.elim ty
noncomputable def tBM (K : PySem.W.Frag) (T : String) (r : V -> List V -> Hp -> VK -> Prop) (to : TE) (t : TA) : TE := fun σ H Q => to σ H fun x H1 => tyV K T x H1 /\ t σ H1 fun xs H2 => r x xs H2 Q
variable {o e : Expr} {es : List Expr} {to : TE} {t : TA} {name : Str} {apos cpos : Pos} {T id : String} {r : V -> List V -> Hp -> VK -> Prop}
theorem DY (pa : PlainAttrs T) (slot : Slot T name id) (hty : typeOf (.builtin id) = pure (.type "method_descriptor")) (hm : MtR X id r) (ho : PE X o to) (ha : PA X (e :: es) t)
    (hbase : attributeBase o name X.env (eval o X.env) = eval o X.env := by rfl)
    (hfew : ((backTo cpos (starEach (e :: es) X.env)).all (fun x => !x.1) && (backToKw cpos (keywordEach [] X.env)).all (fun x => x.1.isSome)
      && decide ((e :: es).length + ([] : List Keyword).length + (if ([] : List Keyword).isEmpty then 0 else 1) < 30)) = true := by rfl)
    (hline : (apos.endLine == cpos.line) = true := by rfl) (hs : starEach (e :: es) X.env = (false, eval e X.env) :: starEach es X.env := by rfl) (hplain : (backTo cpos (starEach es X.env)).any (·.1) = false := by rfl) :
    PE X (.Call (.Attribute o name apos) (e :: es) [] cpos) (tBM X.K T r to t) := by
  intro pins s σ H Q I h
  refine wpAny_Call_method_late hbase hfew hline rfl (thn (ho pins s σ H _ I h) fun v s1 ⟨x, H1, I1, r1, ty, q1⟩ => ?_)
  obtain ⟨h1, h2⟩ := EF I1 r1 ty
  refine ⟨T, id, pa, slot, hty, h1, h2, ?_⟩
  have hA := ha cpos pins s1 σ H1 _ I1 q1
  rw [hs] at hA ⊢
  refine Calls.callWith_builtin (by show (false || (backTo cpos (starEach es X.env)).any (·.1)) = false; rw [hplain] <;> rfl) (Calls.evalArgs_plain ?_)
  exact thn hA fun us s2 ⟨vs, H2, I2, r2, q2⟩ => hm pins s2 σ H2 x vs v us Q I2 r1 r2 q2
/- xs.append(e), list.index on a module's tuple .. are MtR facts of 06m -/
end
noncomputable def MtM (X : Cx) (id : String) (r : V -> List V -> Hp -> VK -> Prop) : Prop :=
  ∀ (pins : List (Addr × Obj)) (s : Shared) (σ : St) (H : Hp) (x : V) (xs : List V) (v : Value) (us : List Value) (Q : VK), Inv X pins σ H s -> RelV x v -> Vals xs us -> r x xs H Q →
    wpAny (model X.prog X.w) X.A (call (.builtin id) (v :: us)) (EP X pins σ Q) X.xe s
theorem Vals.one : ∀ {x : V} {us : List Value}, Vals [x] us -> ∃ u, us = [u] /\ RelV x u
  | _, _, .cons r .nil => ⟨_, rfl, r⟩
theorem Vals.eraseIdx : ∀ {xs : List V} {us : List Value} (i : Nat), Vals xs us -> Vals (xs.eraseIdx i) (us.eraseIdx i)
  | _, _, _, .nil => .nil
  | _, _, 0, .cons _ t => t
  | _, _, i + 1, .cons r t => .cons r (Vals.eraseIdx i t)
theorem Vals.reverse {xs : List V} {us : List Value} (h : Vals xs us) : Vals xs.reverse us.reverse := by
  induction h with
  | nil => exact .nil
  | cons r t ih => rw [List.reverse_cons, List.reverse_cons]; exact Vals.append ih (.cons r .nil)
theorem Vals.rep {xs : List V} {us : List Value} (h : Vals xs us) : ∀ k : Nat, Vals (List.replicate k xs).flatten (List.replicate k us).flatten
  | 0 => .nil
  | k + 1 => by
    rw [List.replicate_succ, List.replicate_succ, List.flatten_cons, List.flatten_cons]
    exact Vals.append h (Vals.rep h k)
theorem rF {α : Type} : ∀ (l : List α) (i : Nat), (l.eraseIdx i).length <= l.length
  | [], _ => Nat.le_refl _
  | _ :: _, 0 => Nat.le_succ _
  | _ :: r, i + 1 => Nat.succ_le_succ (rF r i)
theorem foldl_rep (its : List Value) : ∀ (k : Nat) (acc : List Value),
    List.foldl (fun x1 x2 => x1 ++ x2) acc.toArray (List.replicate k its.toArray) = (acc ++ (List.replicate k its).flatten).toArray
  | 0, acc => by simp
  | k + 1, acc => by
    have e : acc.toArray ++ its.toArray = (acc ++ its).toArray := by simp
    have e2 : (acc ++ its) ++ (List.replicate k its).flatten = acc ++ (List.replicate (k + 1) its).flatten := by
      rw [List.replicate_succ, List.flatten_cons, List.append_assoc]
    rw [<- e2, <- foldl_rep its k (acc ++ its), <- e, List.replicate_succ, List.foldl_cons]
section
variable {X : Cx} {pins : List (Addr × Obj)} {σ : St} {H : Hp} {s : Shared} {l b : Addr} {xs ys zs : List V}
theorem Inv.FV {its its' : List Value} {n : Nat} {f : Array Value -> Array Value} {t' : Nat} (I : Inv X pins σ H s) (hH : H l = some (.lst xs))
    (e : s.heap.get? l = some { cls := .type "list", data := .seq its.toArray n }) (hf : f its.toArray = its'.toArray) (hv : Vals ys its') (hz : ys.length <= sizeLine) :
    Inv X pins σ (upd H l (.lst ys)) { s with heap := s.heap.update l (Obj.mapSeq f), toks := t' } := by
  have q := PySem.IsL.update e f
  rw [hf] at q
  refine I.write (x := l) (e := l) (by rw [hH]; exact trivial) (.inl rfl) (fun b' u hb hu => (Heap.get?_update_other s.heap (Obj.mapSeq f) (Ne.symm hb)).trans hu) ⟨_, q⟩ ?_
  exact ⟨hz, its', _, hv, q⟩
theorem Inv.zp {its : List Value} {t' : Nat} (I : Inv X pins σ H s) (hv : Vals ys its) (hz : ys.length <= sizeLine) :
    Inv X pins σ (upd H s.heap.objs.size (.lst ys)) { s with heap := s.heap.push { cls := .type "list", data := .seq its.toArray }, toks := t' } :=
  I.laid (fun _ _ q => Heap.get?_push_of_some _ q) (Nat.le_refl _) ⟨hz, its, 0, hv, Heap.get?_push_size _ rfl⟩
theorem Inv.fresh (I : Inv X pins σ H s) : H s.heap.objs.size = none := I.hok.fresh (Nat.le_refl _)
theorem Inv.GF (I : Inv X pins σ H s) (hH : H l = some (.lst xs)) : xs.length <= sizeLine /\ ∃ (its : List Value) (n : Nat), Vals xs its /\ xs.length = its.length /\ s.heap.get? l = some { cls := .type "list", data := .seq its.toArray n } := by
  obtain ⟨z, its, n, r, e⟩ := I.hok l _ hH
  exact ⟨z, its, n, r, r.length, e⟩
theorem Ax {n : Nat} (h : n <= sizeLine) : Builtin.List.listTooLong n = false := by
  unfold Builtin.List.listTooLong
  exact decide_eq_false (by omega)
end
section
variable {X : Cx}
noncomputable def xw : V -> List V -> Hp -> VK -> Prop := fun x vs H Q => ∃ l xs y, x = .ref l /\ vs = [y] /\ H l = some (.lst xs) /\ xs.length < sizeLine /\ Q .non (upd H l (.lst (xs ++ [y])))
theorem fG : MtM X "list.append" xw := by
  intro pins s σ H x vs v us Q I rx rv h
  obtain ⟨l, xs, y, rfl, rfl, hH, hz, q⟩ := h
  cases rx
  obtain ⟨u, rfl, ru⟩ := rv.one
  obtain ⟨z, its, n, r, hl, e⟩ := I.GF hH
  refine call_meets F.slot_list_append ⟨_, e, rfl⟩ F.entry_list_append (F.args_list_append_2 _ _) (PySem.list_append l its.toArray n u (by rw [List.size_toArray]; omega)) ⟨e, ?_⟩
  refine ⟨.non, _, I.FV (its' := its ++ [u]) hH e (by simp) (r.append (.cons ru .nil)) ?_, rfl, q⟩
  rw [List.length_append, List.length_singleton]
  omega
noncomputable def Ao : V -> List V -> Hp -> VK -> Prop := fun x vs H Q => ∃ l xs i k y, x = .ref l /\ vs = [.int i] /\ H l = some (.lst xs) /\ -(2 ^ 63) <= i /\ i < 2 ^ 63 /\ seqIndex? i xs.length = some k /\ xs[k]? = some y /\ Q y (upd H l (.lst (xs.eraseIdx k)))
theorem zO : MtM X "list.pop" Ao := by
  intro pins s σ H x vs v us Q I rx rv h
  obtain ⟨l, xs, i, k, y, rfl, rfl, hH, h1, h2, hk, hy, q⟩ := h
  cases rx
  obtain ⟨u, rfl, ru⟩ := rv.one
  obtain ⟨t, rfl⟩ := ru
  obtain ⟨z, its, n, r, hl, e⟩ := I.GF hH
  obtain ⟨w, hw, rw'⟩ := r.get hy
  refine call_meets F.slot_list_pop ⟨_, e, rfl⟩ F.entry_list_pop (F.args_list_pop_2 _ _)
    (MeetsSeq.list_pop_at l its.toArray n i t k w (fitsIndex_both h1 h2) (by rw [List.size_toArray, <- hl]; exact hk) (by rw [<- Array.getElem?_toList]; exact hw) (by rw [List.size_toArray]; omega)) ⟨e, ?_⟩
  refine ⟨y, _, I.FV (its' := its.eraseIdx k) hH e ?_ (r.eraseIdx k) ?_, rw', q⟩
  · show its.toArray.eraseIdxIfInBounds k = (its.eraseIdx k).toArray
    rw [List.eraseIdxIfInBounds_toArray]
  · have := rF xs k
    omega
theorem len_rep {α : Type} (xs : List α) (k : Nat) : (List.replicate k xs).flatten.length = k * xs.length := by
  induction k with
  | zero => simp
  | succ k ih => rw [List.replicate_succ, List.flatten_cons, List.length_append, ih, Nat.succ_mul, Nat.add_comm]
end
end L2
namespace Att
open PySem PySem.W PySem.Calls PyProof.Rows
theorem nc {P : Params} {h : Heap} : ∀ (ns : List Int) (vs : List Value), WellAll P h vs (ns.map WData.int) -> IntsAre vs ns := by
  intro ns
  induction ns with
  | nil =>
    intro vs w
    rw [List.map_nil] at w
    cases w
    exact .nil
  | cons n ns ih =>
    intro vs w
    rw [List.map_cons] at w
    cases w with
    | cons a b =>
      cases a
      exact .cons _ _ (ih _ b)
theorem xN {l : OpenLaw} {n : Nat} (hn : l.most = some n) {P : Params} {h : Heap} {args : List WData} {vals : List Value}
    (hpre : l.row.toRowW.claim.pre args = true) (hwl : WellAll P h vals args) :
    ∃ a vs ns, vals = [Value.ref a] /\ args = [WData.list (ns.map WData.int)] /\ h.get? a = some { cls := .type "list", data := .seq vs.toArray } /\ IntsAre vs ns /\ ns.length <= n := by
  have hsh : WShape.hasAll [] args [.list .int] = true := (pre_splitW hpre).1
  have hc : l.pre.holds [] { args := args } = true := (pre_splitW hpre).2
  obtain ⟨d, r, rfl, h1, h2⟩ := hasAllW_cons hsh
  obtain rfl := hasAllW_nil h2
  obtain ⟨xs, rfl, h3⟩ := hasW_list h1
  obtain ⟨ns, rfl⟩ := items_int h3
  have hlen : ns.length <= n := by
    unfold OpenLaw.pre at hc
    have h4 : (WTm.not (.lt (.lit (.int (n : Int))) (.len (.arg 0)))).holds [] { args := [.list (ns.map .int)] } = true := by
      have h4 := (holds_andW hc).1
      rw [hn] at h4
      exact h4
    have h5 := condW_of h4 (w_not (w_lt w_lit (w_len_list (w_arg rfl))))
    rw [List.length_map] at h5
    refine Nat.le_of_not_lt fun q => ?_
    have q' : (n : Int) < ((ns.length : Nat) : Int) := by omega
    first
      | (rw [decide_eq_true q'] at h5; exact absurd h5 (by decide))
      | (simp at h5; omega)
  cases hwl with
  | cons w1 w2 =>
    cases w2
    cases w1 with
    | list ho hall => exact ⟨_, _, ns, rfl, rfl, ho, nc ns _ hall, hlen⟩
theorem xE (l : OpenLaw) (args : List WData) : l.row.toRowW.claim.post args (.bool true) args = true :=
  postW_of (r := l.row.toRowW) (X := (true == true))
    (show WShape.has [] (.bool true) .bool = true by first | rfl | decide | simp [WShape.has, WShape.arms, WShape.armsAll])
    (show (WTm.eq .res (.lit (.bool true))).value [] { args := args, res := some (.bool true), after := args } = some (.bool (true == true)) from w_eq_bool (w_res rfl) w_lit) rfl
theorem uc {l : OpenLaw} {n : Nat} {q : Program} {loose : List Str} {XP : (Str -> Option Value) -> Heap -> Prop} {YP : World -> Heap -> Prop} {d : DefRec}
    (hn : l.most = some n) (hdf : d.params.defaults = [])
    (call : ∀ (w : World) (ay s₁ : Shared) (mg mb : Str -> Option Value) (fa : Addr) (o : Obj) (pm cd doc : Value) (a : Addr) (vs : List Value) (ns : List Int),
      Ground q loose [] XP w ay mg mb s₁.heap -> YP w s₁.heap →
      s₁.heap.get? fa = some o -> o.data = .func (docDef d.name d.params d.body d.scope pm cd doc) -> s₁.heap.CodeRec cd d.name -> mg d.name = some (.ref fa) →
      s₁.heap.get? a = some { cls := .type "list", data := .seq vs.toArray } -> IntsAre vs ns -> ns.length <= n -> s₁.gens = #[] →
      codeAny (model l.prog w) callerA (.call (.ref fa) ⟨[.ref a], []⟩) (fun r s' => r = .ok (.ret (.bool true)) /\ OldK s₁.heap s'.heap /\ s'.os = s₁.os /\ AllBare s'.gens) s₁) :
    WalkO q loose XP YP l.row.toRowW d [] (fun f vs => PySem.call f vs) := by
  intro w ay s₁ mg mb G Y fa o pm cd doc dV kV ho hd hcd hD hmg hg args vals as hpre hlay hrd hwl hlo
  obtain rfl : dV = .none := Dflts.none hD hdf
  obtain rfl : kV = .none := Dflts.noKw hD
  obtain ⟨a, vs, ns, rfl, rfl, hobj, hints, hlen⟩ := xN hn hpre hwl
  refine enter_call (codeAny_mono (call w ay s₁ mg mb fa o pm cd doc a vs ns G Y ho (fd_plain hd) hcd hmg hobj hints hlen hg) fun r s' hq => ?_)
  obtain ⟨rfl, h2, h3, h4⟩ := hq
  exact ⟨.inl ⟨.bool true, .bool true, [], rfl, fun _ => rfl, .bool true, xE l _, fun _ => ⟨List.Pairwise.nil, fun _ hm => (nomatch hm)⟩⟩, h2, h3, h4⟩
end Att
namespace L2
open PySem PySem.Spec PyProof.Rows
theorem qX : ∀ {vs : List Value} {ns : List Int}, IntsAre vs ns -> Vals (ns.map V.int) vs
  | _, _, .nil => .nil
  | _, _, .cons n t h => .cons ⟨t, rfl⟩ (qX h)
noncomputable def BX (H : Hp) : Prop := ∀ b, H b = none \/ ∃ o xs, H b = some (.frz o (.lst xs))
theorem AG {P : Program} {w : World} {K : PySem.W.Frag} {mg mb : Str -> Option Value} {CX : CXT} {k : Nat} {fa a : Addr} {fd : FuncData} {x : Str} {sp : Sp} {s₁ : Shared} {vs : List Value} {ns : List Int}
    (KX : K.In s₁.heap) (hns : s₁.heap.Ns mainGlobals mg) (hb : s₁.heap.Ns builtinsNs mb) (hbb : ∀ x : Str, x ≠ "__name__" -> mb x = bootBuiltins x) (hlim : s₁.heap.NoLimit) (hg : s₁.gens = #[])
    (ha : s₁.heap.get? a = some { cls := .type "list", data := .seq vs.toArray }) (hi : IntsAre vs ns) (hl : ns.length <= sizeLine) (hr : gX k callerA)
    (F : ∀ base : Heap, K.In base -> base.Ns mainGlobals mg -> fP P w K mg base CX k fa fd [x] sp) (hbind : ∀ (s : Shared) (u : Value), BindsTo s fd ⟨[u], []⟩ [(x, u)])
    (hsp : ∀ H : Hp, BX H -> SqL K H a (ns.map V.int) -> sp [.ref a] H (fun v _ => v = .bl true) fun _ _ _ => False)
    (hCX : ∀ H e s', CX [] H s₁ (fun _ _ _ => False) e s' -> False) :
    codeAny (model P w) callerA (.call (.ref fa) ⟨[.ref a], []⟩) (fun r s' => r = .ok (.ret (.bool true)) /\ OldK s₁.heap s'.heap /\ s'.os = s₁.os /\ AllBare s'.gens) s₁ := by
  have rv := qX hi
  have lenV := hi.length
  -- from an abstract heap in which nothing but the script may be tracked
  have core : ∀ H : Hp, BX H -> SqL K H a (ns.map V.int) -> HOk P w H s₁.heap -> (∀ b, H b ≠ none -> b = a) -> (H a ≠ none -> K.lookup a = none) →
      codeAny (model P w) callerA (.call (.ref fa) ⟨[.ref a], []⟩) (fun r s' => r = .ok (.ret (.bool true)) /\ OldK s₁.heap s'.heap /\ s'.os = s₁.os /\ AllBare s'.gens) s₁ := by
    intro H hO hS hok hA hK
    have base_of : ∀ {b : Addr} {o : Obj}, s₁.heap.get? b = some o -> H b = none -> (tU s₁.heap H).get? b = some o := fun e n => zj e n
    have noA : ∀ {b : Addr} {o : Obj} {es : Array DictEntry} {ep : Nat}, s₁.heap.get? b = some o -> o.data = .dict es ep -> H b = none := fun {b o es ep} e d => by
      cases q : H b with
      | none => rfl
      | some u =>
        have e' : b = a := hA b (by rw [q]; simp)
        subst e'
        rw [ha] at e; cases e
        have d' : Data.seq vs.toArray _ = Data.dict es ep := d
        cases d'
    have nsK : ∀ {b : Addr} {m : Str -> Option Value}, s₁.heap.Ns b m -> (tU s₁.heap H).Ns b m := fun {b m} ⟨o, es, ep, e, d, r⟩ => ⟨o, es, ep, base_of e (noA e d), d, r⟩
    have hKb : K.In (tU s₁.heap H) := fun b o e => base_of (KX b o e) (by
      cases q : H b with
      | none => rfl
      | some u =>
        have e' : b = a := hA b (by rw [q]; simp)
        subst e'
        rw [hK (by rw [q]; simp)] at e; cases e)
    have hM : Mod K mg (tU s₁.heap H) := ⟨hKb, nsK hns, ⟨mb, nsK hb, hbb⟩, let ⟨mc, h1, h2⟩ := hlim; ⟨mc, nsK h1, h2⟩⟩
    have e0 : Ce P w K mg (tU s₁.heap H) callerA [] s₁ H := ⟨rfl, hM, fun b o e => Du e, Nat.le_of_eq (xH _ _), trivial, fun b hb => absurd (show b ∈ ([] : List Addr) from hb) (by simp), hok, .of_eq hg⟩
    refine codeAny_mono ((F _ hKb (nsK hns)).run callerA [] s₁ H ⟨[.ref a], []⟩ [.ref a] [.ref a] _ _ hr e0 (hbind s₁ (.ref a)) (.cons rfl .nil) (hsp H hO hS)) fun r s' h => ?_
    cases r with
    | error e => exact (hCX H e s' h).elim
    | ok fl =>
      cases fl with
      | next => exact False.elim h
      | brk => exact False.elim h
      | cont => exact False.elim h
      | ret u =>
        obtain ⟨v, H', os, bare, un, hok', r', q⟩ := h
        have q' : v = .bl true := q
        subst q'
        obtain rfl : u = Value.bool true := r'
        refine ⟨rfl, OldK.of_keep fun b o e => ?_, os, bare⟩
        cases q : H b with
        | none => exact un.keep b o e q (by intro z; exact absurd (show b ∈ ([] : List Addr) from z) (by simp)) (by simp)
        | some u =>
          rcases hO b with z | ⟨ob, xs, z⟩
          · rw [q] at z; cases z
          · have z2 := un.pW b ob _ z
            obtain ⟨e1, _⟩ := hok b _ z
            obtain ⟨e2, _⟩ := hok' b _ z2
            rw [e] at e1; cases e1
            exact e2
  cases hk : K.lookup a with
  | some o =>
    -- the script is one of the module's own objects
    have e := KX a o hk
    rw [ha] at e
    cases e
    refine core (fun _ => none) (fun _ => .inl rfl) (.inr ⟨_, vs.toArray, _, hk, rfl, rfl, rfl, by rw [List.size_toArray, lenV]; exact hl, by simpa using rv⟩) (fun b u z => by have z' : (none : Option HO) = some u := z; cases z') (fun b z => absurd rfl z) fun z => absurd rfl z
  | none =>
    refine core (fun b => if b = a then some (.frz { cls := .type "list", data := .seq vs.toArray } (.lst (ns.map V.int))) else none) (fun b => ?_) (.inl (.inr ⟨{ cls := .type "list", data := .seq vs.toArray }, if_pos rfl⟩)) (fun b u z => ?_) (fun b z => ?_) fun _ => hk
    · by_cases hb : b = a
      · exact .inr ⟨_, _, if_pos hb⟩
      · exact .inl (if_neg hb)
    · by_cases hb : b = a
      · have z' := (if_pos hb).symm.trans z
        cases z'
        subst hb
        exact ⟨ha, by rw [List.length_map]; exact hl, vs, _, rv, ha⟩
      · have z' := (if_neg hb).symm.trans z
        cases z'
    · by_cases hb : b = a
      · exact hb
      · exact absurd (if_neg hb) z
noncomputable abbrev KOf {K : PySem.W.Frag} {h : Heap} (_ : K.In h) : PySem.W.Frag := K
theorem Cd {l : PySem.W.OpenLaw} {n k : Nat} {q : Program} {loose : List Str} {XP : (Str -> Option Value) -> Heap -> Prop} {YP : World -> Heap -> Prop} {d : DefRec} {K : Params -> PySem.W.Frag} {CX : World -> CXT} {sp : World -> Sp} {x : Str}
    (hn : l.most = some n) (hn2 : n <= sizeLine) (hdf : d.params.defaults = []) (hr : gX k callerA)
    (hY : ∀ (w : World) (h : Heap), YP w h -> (K w.params).In h)
    (F : ∀ (w : World) (mg : Str -> Option Value) (fa : Addr) (h : Heap), (K w.params).In h -> h.Ns mainGlobals mg -> mg d.name = some (.ref fa) →
      ∃ fd : FuncData, (∀ (s : Shared) (u : Value), BindsTo s fd ⟨[u], []⟩ [(x, u)]) ∧
        ∀ base : Heap, (K w.params).In base -> base.Ns mainGlobals mg -> fP l.prog w (K w.params) mg base (CX w) k fa fd [x] (sp w))
    (hsp : ∀ (w : World) (H : Hp) (a : Addr) (ns : List Int), ns.length <= n -> BX H -> SqL (K w.params) H a (ns.map V.int) -> sp w [.ref a] H (fun v _ => v = .bl true) fun _ _ _ => False)
    (hCX : ∀ (w : World) (H : Hp) (s : Shared) (e : Value) (s' : Shared), CX w [] H s (fun _ _ _ => False) e s' -> False) :
    PySem.W.WalkO q loose XP YP l.row.toRowW d [] (fun f vs => PySem.call f vs) := by
  refine Att.uc hn hdf fun w ay s₁ mg mb fa o pm cd doc a vs ns G Y ho hd hcd hmg hobj hints hlen hg => ?_
  have KX := hY w _ Y
  obtain ⟨fd, hb, hF⟩ := F w mg fa _ KX G.T.g hmg
  exact AG KX G.T.g G.T.b G.T.builtins G.T.nolimit hg hobj hints (Nat.le_trans hlen hn2) hr hF hb (fun H hO hS => hsp w H a ns hlen hO hS) fun H e s' => hCX w H s₁ e s'
end L2
/- THE LAST THEOREM (shape; LID, My.* are yours):
   My.Adr: a structure of the addresses that your layer names (classes, functions); My.Txt K t: a structure (Prop) of the equations over K;
   My.txt_mk : {K} {implicit addresses ..} (e1 : nsIn K mainGlobals "law" = some (some (.ref f))) (e2 : K.lookup f = some ⟨oc, od, .func (fnOf "law" "law" params body scope dV kV doc pm an cdv ct), sl⟩) (e3 : codeIn K cdv "law" = true) .. : ∃ t, My.Txt K t
(the tactic k_is has no namespace: write k_is) -/
namespace L2
open PySem PySem.Spec PyProof.Rows
noncomputable def kS (s : Stmt) : Arguments := match s with
  | .FunctionDef _ a _ _ _ _ _ _ _ _ => a
  | _ => { posonlyargs := [], args := [], vararg := none, kwonlyargs := [], kw_defaults := [], kwarg := none, defaults := [] }
noncomputable def hZ (s : Stmt) : List Stmt := match s with
  | .FunctionDef _ _ b _ _ _ _ _ _ _ => b
  | _ => []
noncomputable def ar (s : Stmt) : Scope := match s with
  | .FunctionDef _ _ _ _ _ _ sc _ _ _ => sc
  | _ => { kind := .function, names := [], isGenerator := false, isCoroutine := false }
noncomputable abbrev CX0 : CXT := fun _ _ _ _ _ _ => False
noncomputable abbrev E0 : XK := fun _ _ _ => False
theorem GR {X : Cx} : Passes CX0 X E0 := fun _ _ _ _ _ _ _ h => h.elim
structure Fun (K : PySem.W.Frag) (x qual : Str) (st : Stmt) (f : Addr) (fd : FuncData) : Prop where
  ex : ∃ (oc : Value) (od : Option Addr) (kV doc pm : Value) (an : Option Addr) (cdv ct : Value) (osl : Array (Option Value)),
    fd = PySem.W.fnOf x qual (kS st) (hZ st) (ar st) .none kV doc pm an cdv ct /\ K.lookup f = some ⟨oc, od, .func fd, osl⟩ /\ PySem.W.codeIn K cdv qual = true
  kp : PySem.W.keepIn K (.ref f) = true
section
variable {P : Program} {w : World} {K : PySem.W.Frag} {mg : Str -> Option Value} {base : Heap}
theorem Fun.ok {x qual : Str} {st : Stmt} {f : Addr} {fd : FuncData} {N ps : List Str} {k : Nat} {sp : Sp} (F : Fun K x qual st f fd) (S : aQ N ps (ar st)) (len : ∀ vs H Q E, sp vs H Q E -> vs.length = ps.length)
    (hbody : ∀ (cdv : Value) (A : Around) (outer : List Env) (s : Shared) (H : Hp) (vs : List V) (Q : VK) (E : XK), gX k (A.deeper (envOfC qual (ar st) s.heap.objs.size f cdv)) -> sp vs H Q E →
      ∃ t, PSs (vM CX0 P w K mg base N qual (ar st) f cdv A outer s H E).nox (hZ st) t /\ t { nx := fun _ H' => Q .non H', rt := Q } (start N vs) H) : fP P w K mg base CX0 (k + 1) f fd ps sp := by
  obtain ⟨oc, od, kV, doc, pm, an, cdv, ct, osl, rfl, lk, hcd⟩ := F.ex
  refine Gr lk hcd S len fun A outer s H vs Q E hr hsp => ?_
  obtain ⟨t, h, q⟩ := hbody cdv A outer s H vs Q E hr hsp
  exact ⟨t, h.nox, q⟩
theorem Fun.binds {x qual : Str} {st : Stmt} {f : Addr} {fd : FuncData} {ps : List Str} (F : Fun K x qual st f fd)
    (h : ∀ (kV doc pm : Value) (an : Option Addr) (cdv ct : Value) (us : List Value), us.length = ps.length -> bindArgs (PySem.W.fnOf x qual (kS st) (hZ st) (ar st) .none kV doc pm an cdv ct) ⟨us, []⟩ = pure (ps.zip us)) : Binds K fd ps [] := by
  obtain ⟨oc, od, kV, doc, pm, an, cdv, ct, osl, rfl, lk, hcd⟩ := F.ex
  exact .all (h kV doc pm an cdv ct)
theorem Fv {x qual : Str} {st : Stmt} {f : Addr} {oc : Value} {od an : Option Addr} {osl : Array (Option Value)} {kV doc pm cdv ct : Value} (l : K.lookup f = some ⟨oc, od, .func (PySem.W.fnOf x qual (kS st) (hZ st) (ar st) .none kV doc pm an cdv ct), osl⟩)
    (c : PySem.W.codeIn K cdv qual = true) (k : PySem.W.keepIn K (.ref f) = true) : Fun K x qual st f (PySem.W.fnOf x qual (kS st) (hZ st) (ar st) .none kV doc pm an cdv ct) := ⟨⟨oc, od, kV, doc, pm, an, cdv, ct, osl, rfl, l, c⟩, k⟩
end
noncomputable def PTs (X : Cx) (ifs : List Expr) (t : TT) : Prop :=
  ∀ (pins : List (Addr × Obj)) (s : Shared) (σ : St) (H : Hp) (Q : Bool -> Hp -> Prop), Inv X pins σ H s -> t σ H Q →
    wpAny (model X.prog X.w) X.A (forIn ifs true fun c r => if r = true then do let ok ← isTrue c X.env (eval c X.env); pure (ForInStep.yield ok) else pure (ForInStep.yield r)) (TP X pins σ Q) X.xe s
noncomputable def Gk : TT := fun _ H Q => Q true H
theorem De {X : Cx} : PTs X [] Gk := fun _ _ _ H _ I h => wpAny_tests_nil ⟨H, I, h⟩
theorem Dj {X : Cx} {c : Expr} {t : TT} (h : PT X c t) : PTs X [c] t := fun pins s σ H Q I q => wpAny_tests_one (h pins s σ H Q I q)
theorem mU {prog : Program} {w : World} {A : Around} {R : Result -> Shared -> Prop} {s : Shared} {elt target iter : Expr} {ifs : List Expr} {scope : Scope} {pos : Pos} {it acc : Value} {env : Env} (I : Nat -> Shared -> Prop)
    (turn : ∀ n s, I n s -> wpAny (model prog w) A (pyNext it) (fun r s₁ => match r with
      | none => R (.ok .next) s₁
      | some v => wpAny (model prog w) A (letOwnedTupleGo target it v) (fun _ s₁ => wpAny (model prog w) A (assign target env v) (fun _ s₂ =>
          wpAny (model prog w) A (forIn ifs true fun c r => if r = true then do let ok ← isTrue c env (eval c env); pure (ForInStep.yield ok) else pure (ForInStep.yield r)) (fun ok s₃ =>
            if ok = true then wpAny (model prog w) A (eval elt env) (fun x s₄ =>
              wpAny (model prog w) A (call (.builtin "list.append") [acc, x]) (fun _ s₅ => ∃ m, m < n /\ I m s₅) (fun _ _ => False) s₄) (fun _ _ => False) s₃
            else ∃ m, m < n /\ I m s₃) (fun _ _ => False) s₂) (fun _ _ => False) s₁) (fun _ _ => False) s₁) (fun _ _ => False) s)
    (n : Nat) (h : I n s) :
    codeAny (model prog w) A (.compLoop (.ListComp elt [⟨target, iter, ifs, 0⟩] scope pos) 0 it acc env) R s := by
  refine codeAny_loop rfl I (fun n s hI => ?_) n h
  show wpAny _ A ((compTurn (.ListComp elt [⟨target, iter, ifs, 0⟩] scope pos) 0 it acc env).onRaise (fun x => do noteFrame x env; theTreesLotGoes x)) _ _ s
  refine wpAny_noted ?_
  rw [compTurn_list]
  refine wpAny_noRaise ?_
  refine wpAny_bind (wpAny_standAt (wpAny_bind (wpAny_mono (turn n s hI) (fun r s₁ h₁ => ?_) fun _ _ h' => h')))
  cases r with
  | none => exact wpAny_pure h₁
  | some v =>
    refine wpAny_bind (wpAny_mono h₁ (fun _ s₁' h₁' => ?_) fun _ _ h' => h')
    refine wpAny_bind (wpAny_mono h₁' (fun _ s₂ h₂ => wpAny_bind (wpAny_mono h₂ (fun ok s₃ h₃ => ?_) fun _ _ h' => h')) fun _ _ h' => h')
    cases ok with
    | false => exact wpAny_pure ⟨rfl, h₃⟩
    | true =>
      exact wpAny_bind (wpAny_bind (wpAny_mono h₃ (fun x s₄ h₄ => wpAny_bind (wpAny_mono h₄ (fun _ s₅ h₅ => wpAny_pure (wpAny_pure ⟨rfl, h₅⟩)) fun _ _ h' => h')) fun _ _ h' => h'))
noncomputable def bf (X : Cx) (scope : Scope) (cl : List (Str × Addr)) (C : Addr) (ay : Shared) (aB : Hp) (fp : List Addr) (N' : List Str) : Cx :=
  { X with N := N', ay := ay, aB := aB, env := compEnvC scope cl C X.env, outer := X.stack, ex := fp, fn := fun _ => false, pn := [] }
theorem ke {env : Env} : ∀ (names : List (Str × NameKind)) (cs : List (Str × Addr)), (∀ y ∈ names, y.2 = .free -> ∃ a, env.cells.lookup y.1 = some a) -> (∀ x c, cs.lookup x = some c -> env.cells.lookup x = some c) →
    ∃ cl : List (Str × Addr), (forIn names cs fun (y : Str × NameKind) (r : List (Str × Addr)) => if (y.2 == NameKind.free) = true then do let a ← cellOf env y.1; pure (ForInStep.yield ((y.1, a) :: r)) else pure (ForInStep.yield r) : Sem (List (Str × Addr))) = pure cl ∧
      (∀ x c, cl.lookup x = some c -> env.cells.lookup x = some c) /\ (∀ x, ((x, NameKind.free) ∈ names \/ ∃ c, cs.lookup x = some c) -> ∃ c, cl.lookup x = some c)
  | [], cs, _, h => ⟨cs, rfl, h, fun x hx => by
      rcases hx with z | z
      · cases z
      · exact z⟩
  | (n, k) :: r, cs, hf, h => by
    by_cases hk : k = .free
    · subst hk
      obtain ⟨a, ha⟩ := hf (n, .free) (by simp) rfl
      obtain ⟨cl, e, h1, h2⟩ := ke r ((n, a) :: cs) (fun y hy => hf y (List.mem_cons_of_mem _ hy)) (fun x c q => by
        rw [List.lookup_cons] at q
        cases hx : x == n with
        | true =>
          rw [hx] at q
          have : x = n := by simpa using hx
          subst this
          cases q; exact ha
        | false => rw [hx] at q; exact h x c q)
      refine ⟨cl, ?_, h1, fun x hx => ?_⟩
      · rw [List.forIn_cons]
        have e0 : cellOf env n = pure a := by unfold cellOf; rw [ha]
        simp only [beq_self_eq_true, if_true, e0]
        exact e
      · have hc : ∀ z c, cs.lookup z = some c -> ∃ c, ((n, a) :: cs).lookup z = some c := fun z c q => by
          rw [List.lookup_cons]
          cases z == n with
          | true => exact ⟨a, rfl⟩
          | false => exact ⟨c, q⟩
        rcases hx with z | ⟨c, z⟩
        · rcases List.mem_cons.mp z with q | q
          · cases q
            exact h2 n (.inr ⟨a, by simp [List.lookup_cons]⟩)
          · exact h2 x (.inl q)
        · exact h2 x (.inr (hc x c z))
    · obtain ⟨cl, e, h1, h2⟩ := ke r cs (fun y hy => hf y (List.mem_cons_of_mem _ hy)) h
      have hb : (k == NameKind.free) = false := by simpa using hk
      refine ⟨cl, ?_, h1, fun x hx => ?_⟩
      · rw [List.forIn_cons]
        simp only [hb, Bool.false_eq_true, if_false]
        exact e
      · rcases hx with z | z
        · rcases List.mem_cons.mp z with q | q
          · cases q; exact absurd rfl hk
          · exact h2 x (.inl q)
        · exact h2 x (.inr z)
theorem gK {env : Env} {scope : Scope} (h : ∀ y ∈ scope.names, y.2 = .free -> ∃ a, env.cells.lookup y.1 = some a) :
    ∃ cl : List (Str × Addr), closureFor scope env = pure cl /\ (∀ x c, cl.lookup x = some c -> env.cells.lookup x = some c) /\ (∀ x, (x, NameKind.free) ∈ scope.names -> ∃ c, cl.lookup x = some c) := by
  obtain ⟨cl, e, h1, h2⟩ := ke (env := env) scope.names [] h (fun x c q => by cases q)
  refine ⟨cl, ?_, h1, fun x hx => h2 x (.inl hx)⟩
  exact Eq.trans (congrArg (fun t : Sem (List (Str × Addr)) => t >>= fun cs => pure cs) e) rfl
theorem lookup_mem {x : Str} {k : NameKind} : ∀ {names : List (Str × NameKind)}, names.lookup x = some k -> (x, k) ∈ names
  | [], h => by cases h
  | (n, j) :: r, h => by
    rw [List.lookup_cons] at h
    cases hx : x == n with
    | true =>
      rw [hx] at h
      have : x = n := by simpa using hx
      subst this
      cases h; simp
    | false => rw [hx] at h; exact List.mem_cons_of_mem _ (lookup_mem h)
theorem cM {env : Env} (hf : env.scope.kind = .function) : ∀ {names : List (Str × NameKind)} {x : Str}, names.lookup x = some .free -> env.kindOf x = some .cell →
    (names.map fun (n, k) => if (k == NameKind.free && env.scope.kind == .function && env.kindOf n == some .cell) then (n, NameKind.cell) else (n, k)).lookup x = some .cell
  | [], _, h, _ => by cases h
  | (n, k) :: r, x, h, hc => by
    have ih := @cM env hf r x
    show List.lookup x ((if (k == NameKind.free && env.scope.kind == .function && env.kindOf n == some .cell) = true then (n, NameKind.cell) else (n, k)) :: _) = _
    cases hx : x == n with
    | true =>
      have : x = n := by simpa using hx
      subst this
      simp only [List.lookup_cons, hx] at h
      cases h
      rw [if_pos (by simp [hf, hc])]
      simp [List.lookup_cons]
    | false =>
      simp only [List.lookup_cons, hx] at h
      by_cases hq : (k == NameKind.free && env.scope.kind == .function && env.kindOf n == some .cell) = true
      · rw [if_pos hq]; simp only [List.lookup_cons, hx]; exact ih h hc
      · rw [if_neg hq]; simp only [List.lookup_cons, hx]; exact ih h hc
theorem cU {env : Env} : ∀ {names : List (Str × NameKind)} {x : Str} {k : NameKind}, (names.map fun (n, k) => if (k == NameKind.free && env.scope.kind == .function && env.kindOf n == some .cell) then (n, NameKind.cell) else (n, k)).lookup x = some k →
    names.lookup x = some k \/ (names.lookup x = some .free /\ k = .cell)
  | [], _, _, h => by cases h
  | (n, j) :: r, x, k, h => by
    have ih := @cU env r x k
    have h' : List.lookup x ((if (j == NameKind.free && env.scope.kind == .function && env.kindOf n == some .cell) = true then (n, NameKind.cell) else (n, j)) :: (r.map fun (n, k) => if (k == NameKind.free && env.scope.kind == .function && env.kindOf n == some .cell) then (n, NameKind.cell) else (n, k))) = some k := h
    by_cases hq : (j == NameKind.free && env.scope.kind == .function && env.kindOf n == some .cell) = true
    · rw [if_pos hq] at h'
      have hj : j = .free := by
        have := Bool.and_eq_true_iff.mp (Bool.and_eq_true_iff.mp hq).1
        simpa using this.1
      simp only [List.lookup_cons] at h' ⊢
      cases hx : x == n with
      | true => rw [hx] at h'; cases h'; exact .inr ⟨by rw [hj], rfl⟩
      | false => rw [hx] at h'; exact ih h'
    · rw [if_neg hq] at h'
      simp only [List.lookup_cons] at h' ⊢
      cases hx : x == n with
      | true => rw [hx] at h'; cases h'; exact .inl rfl
      | false => rw [hx] at h'; exact ih h'
noncomputable def fA (ix : List Nat) (σ : St) : St := none :: ix.map fun i => (σ[i]?).join
noncomputable abbrev GP (J : It) (tt : TT) (te : TE) (σ' : V -> St) (acc : Addr) (H1 : Hp) (Q : VK) : Prop :=
  ∃ W : Nat -> Nat -> List V -> Hp -> Prop, (∃ m, W 0 m [] (upd H1 acc (.lst []))) /\ ∀ i m ys H, W i m ys H →
    (J.stop i H /\ Q (.ref acc) H) \/ (J.go i H /\ ∀ x H', J.yld i H x H' -> tt (σ' x) H' fun b H2 => if b = true then te (σ' x) H2 fun y H3 =>
        H3 acc = some (.lst ys) /\ ys.length < sizeLine /\ ∃ m', m' < m /\ W (i + 1) m' (ys ++ [y]) (upd H3 acc (.lst (ys ++ [y])))
      else ∃ m', m' < m /\ W (i + 1) m' ys H2)
noncomputable def zI (wi : TI) (ix : List Nat) (tt : TT) (te : TE) : TE := fun σ H Q => wi σ H fun J H1 => ∀ acc, H1 acc = none -> GP J tt te (fun x => (fA ix σ).set 0 (some x)) acc H1 Q
theorem HOk.sameBut {P : Program} {w : World} {H : Hp} {h h' : Heap} {C : Addr} (x : HOk P w H h) (hn : H C = none) (k : ∀ b u, b ≠ C -> h.get? b = some u -> h'.get? b = some u) : HOk P w H h' := fun b u e => by
  have nC : ∀ b u, H b = some u -> b ≠ C := fun b u e z => by rw [z, hn] at e; cases e
  refine (x b u e).pd (fun c v hc q => k c v ?_ q) (fun _ q => q) fun _ _ q => q
  rcases hc with z | z
  · rw [z]; exact nC b u e
  · exact nC c _ z
theorem ue : isSubtype (.type "tuple") (.type "set") = pure false := by rw [isSubtype_type]; kernel_rfl
theorem rP : isSubtype (.type "tuple") (.type "frozenset") = pure false := by rw [isSubtype_type]; kernel_rfl
noncomputable abbrev fC (led : Bool) : Obj := { cls := .type "set", dict := none, data := .set #[] 0 (.fresh 0 0 led) }
set_option maxHeartbeats 3200000 in
theorem set_tuple {prog : Program} {w : World} {B : Around} {Er : Value -> Shared -> Prop} {z : Shared} {a : Addr} {its : Array Value} {zs : List Int} {Q : Value -> Shared -> Prop}
    (hh : B.handled = none) (ht : z.heap.IsTuple a its) (hi : IntsAre its.toList zs) (hb : its.size + 1 < scanBound)
    (fin : ∀ (g' : Heap) (tk : Nat), g'.SetOf (intKind prog w) z.heap.objs.size (fun k' => (firstMet (fun i => zs.getD i 0) its.size).any (· == k')) (firstMet (fun i => zs.getD i 0) its.size).length →
      (∀ b o, b < z.heap.objs.size -> z.heap.get? b = some o -> g'.get? b = some o) -> Q (.ref z.heap.objs.size) { z with heap := g', toks := tk }) :
    wpAny (model prog w) B (call (.type "set") [.ref a]) Q Er z := by
  obtain ⟨_, _, _⟩ := F.called_set.mro
  have := F.called_set.made
  have := F.called_set.sub
  refine wpAny_call (codeAny_of_tree ?_)
  show wpAny _ _ (callAny (.type "set") _) _ _ _
  refine wpAny_pure ⟨Code.quiet_builtin _ (by decide +kernel), codeAny_builtin F.entry_type_call ?_⟩
  rw [Around.under_plain (weight_type_call_type "set" [.ref a] []) rfl]
  have := F.called_set.notType
  have := F.called_set.canCreate
  have := F.typeCall_set_1 (.ref a)
  repeat (any_goals (first | assumption | wp_step))
  refine codeAny_mono (code_set_new_1 (.ref a) (E := Er) (Q₁ := fun v y => ∃ led : Bool, v = .ref z.heap.objs.size /\ y = { z with heap := z.heap.push (fC led) }) fun led => ⟨led, rfl, rfl⟩) fun r y hr => ?_
  cases r with
  | error e => exact hr
  | ok fl =>
    cases fl with
    | ret v =>
      obtain ⟨led, rfl, rfl⟩ := hr
      have hS : (z.heap.push (fC led)).get? z.heap.objs.size = some (fC led) := Heap.get?_push_size _ rfl
      have hT : Shared.TypeIs { z with heap := z.heap.push (fC led) } (.ref z.heap.objs.size) "set" := ⟨_, hS, rfl⟩
      have := F.called_set.init.lookup
      have := F.called_set.init.bind (.ref z.heap.objs.size)
      repeat (any_goals (first | assumption | wp_step))
      refine codeAny_mono (codeAny_call_builtin (R := wants (fun r y => r = .none /\ ∃ g' tk, y = { z with heap := g', toks := tk } ∧
          g'.SetOf (intKind prog w) z.heap.objs.size (fun k' => (firstMet (fun i => zs.getD i 0) its.size).any (· == k')) (firstMet (fun i => zs.getD i 0) its.size).length ∧
          (∀ b o, b < z.heap.objs.size -> z.heap.get? b = some o -> g'.get? b = some o)) Er) F.called_set.init.plain F.entry_set_init (check_set_init_1 hT ?_)) fun r₂ y₂ hr₂ => ?_
      · obtain ⟨ol, hol, hcl, nl, hdl⟩ := id ht
        obtain ⟨oc, od, oda, osl⟩ := ol
        simp only at hcl hdl
        subst hcl; subst hdl
        have hol' : (z.heap.push (fC led)).get? a = some { cls := .type "tuple", dict := od, data := .seq its nl, slots := osl } := Heap.get?_push_of_some _ hol
        have := ue
        have := rP
        have : (Value.type "tuple" == Value.type "dict") = false := by decide
        have ht1 : (z.heap.push (fC led)).IsTuple a its := ⟨_, hol', rfl, nl, rfl⟩
        unfold Builtin.«set.__init__» noKeywords Builtin.Frozenset.updateFrom
        generalize hPI : pyIter = PI
        wp_walk
        subst hPI
        refine wpAny_pyIter_tuple ht1 ?_
        refine wpAny_bind (wpAny_runValue ?_)
        have hlS : a < z.heap.objs.size := Heap.lt_size hol
        have hneI : a ≠ (z.heap.push (fC led)).objs.size := by
          rw [Heap.size_push]; exact Nat.ne_of_lt (Nat.lt_succ_of_lt hlS)
        have hSf : z.heap.objs.size ∉ [(z.heap.push (fC led)).objs.size, a] := by
          rw [Heap.size_push]; simp only [List.mem_cons, List.mem_singleton, List.not_mem_nil, or_false, not_or]
          exact ⟨Nat.ne_of_lt (Nat.lt_succ_self _), Nat.ne_of_gt hlS⟩
        have hval : ∀ (i : Nat) (v : Value), its[i]? = some v -> ∃ t, v = .int ((fun i => zs.getD i 0) i) t := fun i v hv => IntsAre.int_at hi i v (by rw [Array.getElem?_toList]; exact hv)
        refine codeAny_set_update_loopS ((Walks.tuple (by simp [hh]) _ a hneI its).toS) z.heap.objs.size
          hSf (fun i => zs.getD i 0) hval hb (its.size - 0) 0 _ (by omega) (Nat.zero_le _)
          ⟨⟨_, Heap.get?_push_size _ rfl, rfl, rfl⟩, ?hP⟩ ?hS0 ?hR
        case hP => exact ⟨_, Heap.get?_push_of_some _ hol', rfl, nl, rfl⟩
        case hS0 =>
          exact SetOf_congr ((setObjOf_fresh (knd := intKind prog w) led).setOf (Heap.get?_push_of_some _ hS) (by unfold scanBound; omega)) (fun _ => rfl) rfl
        case hR =>
          intro s' hm hS'
          obtain ⟨h', g', d', tk', os'⟩ := s'
          obtain rfl : g' = z.gens := hm.gens
          obtain rfl : d' = z.drawn := hm.drawn
          obtain rfl : os' = z.os := hm.os
          show wpAny _ _ _ _ _ _
          refine wpAny_pure ?_
          show wpAny _ _ (ret Value.none) _ _ _
          refine wpAny_pure ⟨rfl, h', tk', rfl, hS', fun b o hb e => ?_⟩
          refine hm.heap b o ?_ (Heap.get?_push_of_some _ (Heap.get?_push_of_some _ e))
          simp only [List.mem_cons, List.mem_singleton, List.not_mem_nil, or_false, not_or]
          refine ⟨Nat.ne_of_lt hb, ?_⟩
          show b ≠ (z.heap.push (fC led)).objs.size
          rw [Heap.size_push]; exact Nat.ne_of_lt (Nat.lt_succ_of_lt hb)
      · cases r₂ with
        | error e => exact hr₂
        | ok fl₂ =>
          cases fl₂ with
          | ret r =>
            obtain ⟨rfl, g', tk, rfl, hS', hk'⟩ := hr₂
            repeat (any_goals (first | assumption | wp_step))
            exact fin _ _ hS' hk'
          | _ => exact hr₂.elim
    | _ => exact hr.elim
section
variable {X : Cx}
theorem u0 : bO X (.builtin "isinstance") (fun vs H Q => ∃ x t n b, vs = [x, .ty n] /\ kB X.K H x t /\ PySem.W.kitOne X.K t (.type n) = some b /\ Q (.bl b) H) := by
  intro pins s σ H xs us Q I r h
  obtain ⟨x, t, n, b, rfl, ty, e, q⟩ := h
  obtain ⟨u, w', rfl, r1, r2⟩ := vals2 r
  cases r2
  exact yu I r1 ty e fun tk => ⟨.bl b, H, I.tok tk, rfl, q⟩
noncomputable def unl (ns : List Int) : List Int := firstMet (fun i => ns.getD i 0) ns.length
theorem kR (hc : X.calm = true) : bO X (.type "set") (fun vs H Q => ∃ p ns, vs = [.ref p] /\ SqT X.K H p (ns.map V.int) /\ ns.length + 1 < scanBound /\ ∀ l, H l = none -> Q (.ref l) (upd H l (.set (fun k => (unl ns).any (· == k)) (unl ns).length))) := by
  intro pins s σ H xs us Q I r h
  obtain ⟨p, ns, rfl, hq, hb, q⟩ := h
  obtain ⟨u, rfl, rx⟩ := vals1 r
  cases rx
  obtain ⟨its, r', pl, hz⟩ := I.tuple hq
  have hlen := r'.length
  rw [List.length_map] at hlen
  have e0 : its.toArray.size = ns.length := by rw [List.size_toArray, hlen]
  refine set_tuple (I.ok.hd hc) (show s.heap.IsTuple p its.toArray from pl) (zs := ns) (by simpa using intsAre_of r') (by rw [e0]; exact hb) fun g' tk hS hk => ?_
  rw [e0] at hS
  exact ⟨.ref s.heap.objs.size, _, I.laid (t' := tk) (fun b o e => hk b o (Heap.lt_size e) e) (Nat.le_refl _) (show cK X.prog X.w _ g' _ (.set _ _) from hS), rfl, q _ (I.hok.fresh (Nat.le_refl _))⟩
theorem qs : bO X (.builtin "len") (fun vs H Q => ∃ p S n, vs = [.ref p] /\ H p = some (.set S n) /\ Q (.int n) H) := by
  intro pins s σ H xs us Q I r h
  obtain ⟨p, S, n, rfl, hH, q⟩ := h
  obtain ⟨u, rfl, rx⟩ := vals1 r
  cases rx
  obtain ⟨o, es, ep, tb, ho, hex, hd, hel, hmem, hsz, hfit, rfl⟩ := (show s.heap.SetOf (intKind X.prog X.w) p S n from I.hok p _ hH)
  have hb : (es.size : Int) < 2 ^ 63 := by unfold scanBound at hsz; omega
  exact PySem.call_len_set ho hex hd hfit hb ⟨.int es.size, H, I.tok _, ⟨_, rfl⟩, q⟩
theorem jR {prog : Program} {w : World} {A : Around} {E : Value -> Shared -> Prop} {s : Shared} {t sl : Addr} {items : Array Value} {vl vu : Value} {lo hi : Option Int} {Q : Value -> Shared -> Prop} (ht : IsTup s.heap t items) (hs : s.heap.IsSliceOf sl vl vu .none) (pl : IsPart vl lo) (pu : IsPart vu hi)
    (h1 : HT.sIx items.size 0 lo = 0) (h2 : HT.sIx items.size items.size hi = items.size) (h : Q (.ref t) s) : wpAny (model prog w) A (getItem (.ref t) (.ref sl)) Q E s := by
  obtain ⟨os, hos, hcs, hds⟩ := id hs
  have hTs : s.TypeIs (.ref sl) "slice" := ⟨os, hos, hcs⟩
  unfold getItem
  try with_reducible refine wpAny_holding ?_
  first | refine wpAny_bind (wpAny_pure ?_) | skip
  refine wpAny_bind (wpAny_sequenceKey ht.typeIs (by decide) ?_)
  refine wpAny_bind (wpAny_callSpecial?_slot (name := Str.ofString "__getitem__") ht.typeIs PyProof.Rows.slot_tuple_getitem (wpAny_call_entry PyProof.Rows.slot_tuple_getitem ht.typeIs entry_tuple_getitem ?_ (args_tuple_getitem _ _)))
  show wpAny _ _ (Builtin.Tuple.tupleItemsOf (.ref t) >>= _) _ _ s
  refine wpAny_bind (tupleItemsOf_ ht (wpAny_bind (wpAny_typeOf hTs ?_)))
  rw [if_pos (by decide)]
  refine wpAny_bind (HT.gM hs pl pu ?_)
  rw [h1, h2]
  show wpAny _ _ (if (((0 : Nat) : Int) == 0 && (1 : Int) == 1 && (items.size - 0) == items.size) = true then _ else _) _ _ s
  rw [if_pos (by simp)]
  show wpAny _ _ (Builtin.Tuple.tupleIsExact (.ref t) >>= _) _ _ s
  unfold Builtin.Tuple.tupleIsExact
  refine wpAny_bind (wpAny_bind (wpAny_typeOf ht.typeIs (wpAny_pure ?_)))
  show wpAny _ _ (if (Value.type "tuple" == Value.type "tuple") = true then _ else _) _ _ s
  rw [if_pos (by decide)]
  refine wpAny_bind (wpAny_rule ?_)
  first
    | exact wpAny_pure ⟨_, rfl, wpAny_pure h⟩
    | exact wpAny_bind (wpAny_pure (wpAny_pure ⟨_, rfl, wpAny_pure h⟩))
noncomputable def F0 (K : PySem.W.Frag) : V -> Option Int -> Option Int -> Hp -> VK -> Prop := fun x lo hi H Q => ∃ a xs, x = .ref a /\ SqT K H a xs /\ HT.sIx xs.length 0 lo = 0 /\ HT.sIx xs.length xs.length hi = xs.length /\ Q (.ref a) H
theorem Cg : SlR X (F0 X.K) := by
  intro pins s σ H x v vl vu lo hi sl Q I rx hs pl pu h
  obtain ⟨a, xs, rfl, hx, h1, h2, q⟩ := h
  cases rx
  obtain ⟨its, r, ht, hz⟩ := I.tuple hx
  have hlen : its.toArray.size = xs.length := by rw [List.size_toArray]; exact r.length.symm
  refine ⟨"tuple", _, PyProof.Rows.slot_tuple_getitem.lookup, ht.typeIs, ?_⟩
  exact jR ht hs pl pu (by rw [hlen]; exact h1) (by rw [hlen]; exact h2) ⟨.ref a, H, I, rfl, q⟩
theorem u3 (xs : Array Value) : ((List.range xs.size).filterMap fun (k : Nat) => xs[((xs.size : Int) - 1 + (k : Int) * (-1)).toNat]?).toArray = xs.toList.reverse.toArray := by
  have e : ((List.range xs.size).filterMap fun (k : Nat) => xs[((xs.size : Int) - 1 + (k : Int) * (-1)).toNat]?) = ((List.range xs.size).map fun k => xs.size - 1 - k).filterMap (xs[·]?) := by
    rw [List.filterMap_map]
    have cg : ∀ (l : List Nat) (f g : Nat -> Option Value), (∀ k ∈ l, f k = g k) -> l.filterMap f = l.filterMap g := by
      intro l
      induction l with
      | nil => intro _ _ _; rfl
      | cons a r ih =>
        intro f g h
        rw [List.filterMap_cons, List.filterMap_cons, h a (by simp), ih f g fun k hk => h k (List.mem_cons_of_mem _ hk)]
    refine cg _ _ _ fun k hk => ?_
    have := List.mem_range.mp hk
    have e1 : ((xs.size : Int) - 1 + (k : Int) * (-1)).toNat = xs.size - 1 - k := by omega
    show xs[((xs.size : Int) - 1 + (k : Int) * (-1)).toNat]? = xs[xs.size - 1 - k]?
    rw [e1]
  rw [e, PySem.W.krv_range, List.filterMap_reverse, PySem.W.krv_all]
theorem lM {prog : Program} {w : World} {A : Around} {E : Value -> Shared -> Prop} {s : Shared} {sl : Addr} {u : Tok} {n : Nat} {Q : Int × Int × Nat -> Shared -> Prop} (hs : s.heap.IsSliceOf sl .none .none (.int (-1) u))
    (h : Q ((n : Int) - 1, -1, n) s) : wpAny (model prog w) A (Builtin.Slice.sliceApplied (.ref sl) (pure (n : Int))) Q E s := by
  obtain ⟨os, hos, hcs, hds⟩ := id hs
  unfold Builtin.Slice.sliceApplied Builtin.Slice.sliceFields
  refine wpAny_bind (wpAny_bind (wpAny_field hos hds (x := .none) rfl (wpAny_bind (wpAny_field hos hds (x := .none) rfl (wpAny_bind (wpAny_field hos hds (x := .int (-1) u) rfl (wpAny_pure ?_)))))))
  refine wpAny_bind (slicePart_int ?_)
  show wpAny _ _ (if ((-1 : Int) == 0) = true then _ else _) _ _ s
  rw [if_neg (by decide)]
  refine wpAny_bind (slicePart_none (wpAny_bind (slicePart_none (wpAny_bind (wpAny_pure ?_)))))
  show wpAny _ _ (match Builtin.Slice.sliceAdjust none none (-1) (n : Int) with | (lo, hi) => pure (lo, (-1 : Int), Builtin.Slice.slicePlaces lo hi (-1))) _ _ s
  rw [show Builtin.Slice.sliceAdjust none none (-1) (n : Int) = ((n : Int) - 1, -1) from rfl]
  have hp : Builtin.Slice.slicePlaces ((n : Int) - 1) (-1) (-1) = n := by
    unfold Builtin.Slice.slicePlaces
    rw [if_neg (by decide)]
    by_cases hz : (n : Int) - 1 > -1
    · rw [if_pos hz, show (- -1 : Int) = 1 by decide, Int.ediv_one]; omega
    · rw [if_neg hz]; omega
  show wpAny _ _ (pure ((n : Int) - 1, (-1 : Int), Builtin.Slice.slicePlaces ((n : Int) - 1) (-1) (-1))) _ _ s
  rw [hp]
  exact wpAny_pure h
theorem k8 {prog : Program} {w : World} {A : Around} {E : Value -> Shared -> Prop} {s : Shared} {t sl : Addr} {items : Array Value} {u : Tok} {Q : Value -> Shared -> Prop} (ht : IsTup s.heap t items) (hs : s.heap.IsSliceOf sl .none .none (.int (-1) u))
    (h : Q (.ref s.heap.objs.size) { s with heap := s.heap.push { cls := .type "tuple", data := .seq items.toList.reverse.toArray } }) (hsz : items.size <= sizeLine) : wpAny (model prog w) A (getItem (.ref t) (.ref sl)) Q E s := by
  obtain ⟨os, hos, hcs, hds⟩ := id hs
  have hTs : s.TypeIs (.ref sl) "slice" := ⟨os, hos, hcs⟩
  unfold getItem
  try with_reducible refine wpAny_holding ?_
  first | refine wpAny_bind (wpAny_pure ?_) | skip
  refine wpAny_bind (wpAny_sequenceKey ht.typeIs (by decide) ?_)
  refine wpAny_bind (wpAny_callSpecial?_slot (name := Str.ofString "__getitem__") ht.typeIs PyProof.Rows.slot_tuple_getitem (wpAny_call_entry PyProof.Rows.slot_tuple_getitem ht.typeIs entry_tuple_getitem ?_ (args_tuple_getitem _ _)))
  show wpAny _ _ (Builtin.Tuple.tupleItemsOf (.ref t) >>= _) _ _ s
  refine wpAny_bind (tupleItemsOf_ ht (wpAny_bind (wpAny_typeOf hTs ?_)))
  rw [if_pos (by decide)]
  refine wpAny_bind (lM hs ?_)
  show wpAny _ _ (if (((items.size : Int) - 1) == 0 && (-1 : Int) == 1 && items.size == items.size) = true then _ else _) _ _ s
  rw [if_neg (by simp)]
  show wpAny _ _ (Builtin.Tuple.tupleExact ((List.range items.size).filterMap fun (k : Nat) => items[((items.size : Int) - 1 + (k : Int) * (-1)).toNat]?).toArray >>= _) _ _ s
  rw [u3]
  have hz : sizeOk (.seq items.toList.reverse.toArray) := by
    show items.toList.reverse.toArray.size <= sizeLine
    simpa using hsz
  first
    | exact wpAny_bind (m := Builtin.Tuple.tupleExact _) (wpAny_newObj_type (wpAny_pure ⟨_, rfl, wpAny_pure h⟩) hz)
    | exact wpAny_bind (m := Builtin.Tuple.tupleExact _) (wpAny_newObj_type (wpAny_bind (wpAny_pure (wpAny_pure ⟨_, rfl, wpAny_pure h⟩))) hz)
noncomputable def y_ (K : PySem.W.Frag) : R2 := fun x y H Q => ∃ a b ys, x = .ref a /\ y = .ref b /\ SqT K H a [] /\ SqT K H b ys /\ Q (.ref b) H
theorem Ba : OpR X (binaryOp .Add) (y_ X.K) := by
  intro pins s σ H x y v u Q I rx ry h
  obtain ⟨a, b, ys, rfl, rfl, ha, hb, q⟩ := h
  cases rx
  cases ry
  obtain ⟨its, r1, p1, _⟩ := I.tuple ha
  obtain ⟨its2, r2, p2, _⟩ := I.tuple hb
  cases r1
  obtain ⟨⟨cls, dd, data, sl⟩, ho, hc, n, hd⟩ := id p1
  obtain ⟨⟨cls2, dd2, data2, sl2⟩, ho2, hc2, n2, hd2⟩ := id p2
  simp only at hc hd hc2 hd2
  subst hc hd hc2 hd2
  exact concat_meets ⟨_, ho, rfl⟩ ⟨_, ho2, rfl⟩ noFill_tuple_add seq_tuple_add PySem.F.slot_tuple_add PySem.F.entry_tuple_add (PySem.F.args_tuple_add_2 _ _)
    (tuple_addW0 a b _ _ n n2 dd dd2 sl sl2 (by simp)) ⟨ho, ho2, ⟨.ref b, H, I, rfl, q⟩⟩
end
open AutoSeq1 (wpAny_loadPart')
noncomputable def rJ (a : Addr) (lo hi st : Int) : HO := .ext fun h => ∃ t u v, h.get? a = some { cls := .type "range", data := .fields #[.int lo t, .int hi u, .int st v] }
noncomputable def qq (lo st : Int) (n : Nat) : List Int := (List.range n).map fun (i : Nat) => lo + (i : Int) * st
theorem mM (lo st : Int) (n : Nat) : (qq lo st n).length = n := by simp [qq]
theorem wq {lo st : Int} {n : Nat} {acc : Array Value} (h : ItemsOf (fun i v => ∃ t, v = .int (lo + i * st) t) acc n) : Vals ((qq lo st n).map V.int) acc.toList := by
  obtain ⟨hs, hv⟩ := h
  have key : ∀ (l : List Value) (k : Nat), (∀ j v, l[j]? = some v -> ∃ t, v = Value.int (lo + ((k + j : Nat) : Int) * st) t) -> Vals (((List.range' k l.length).map fun (i : Nat) => lo + (i : Int) * st).map V.int) l := by
    intro l
    induction l with
    | nil => intro k _; exact .nil
    | cons a r ih =>
      intro k hk
      rw [List.length_cons, List.range'_succ, List.map_cons, List.map_cons]
      refine .cons ?_ (ih (k + 1) fun j v e => ?_)
      · obtain ⟨t, q⟩ := hk 0 a rfl
        exact ⟨t, by rw [q]; simp⟩
      · obtain ⟨t, q⟩ := hk (j + 1) v (by simpa using e)
        exact ⟨t, by rw [q]; congr 3; omega⟩
  have := key acc.toList 0 fun j v e => by
    obtain ⟨t, q⟩ := hv j v (by simpa using e)
    exact ⟨t, by rw [q]; simp⟩
  unfold qq
  rw [List.range_eq_range', <- hs]
  simpa using this
section
variable {X : Cx}
theorem Inv.rng {pins : List (Addr × Obj)} {σ : St} {H : Hp} {s : Shared} {lo hi st : Int} {t u v : Tok} {tk : Nat} (I : Inv X pins σ H s) :
    Inv X pins σ (upd H s.heap.objs.size (rJ s.heap.objs.size lo hi st)) { s with heap := s.heap.push { cls := .type "range", data := .fields #[.int lo t, .int hi u, .int st v] }, toks := tk } := by
  refine I.laid (fun b o e => Heap.get?_push_of_some _ e) (Nat.le_refl _) ?_
  refine ⟨⟨t, u, v, Heap.get?_push_size _ rfl⟩, ⟨_, Heap.get?_push_size _ rfl⟩, fun h1 h2 ⟨a, b, c, e⟩ k => ⟨a, b, c, k _ e⟩⟩
theorem yd : bO X (.type "range") (fun vs H Q => ∃ j, vs = [.int j] /\ ∀ p, H p = none -> Q (.ref p) (upd H p (rJ p 0 j 1))) := by
  intro pins s σ H xs us Q I r h
  obtain ⟨j, rfl, q⟩ := h
  obtain ⟨u, rfl, t, rfl⟩ := vals1 r
  exact call_range_1 ⟨.ref _, _, I.rng, rfl, q _ (I.hok.fresh (Nat.le_refl _))⟩
theorem xS : bO X (.type "range") (fun vs H Q => ∃ i j, vs = [.int i, .int j] /\ ∀ p, H p = none -> Q (.ref p) (upd H p (rJ p i j 1))) := by
  intro pins s σ H xs us Q I r h
  obtain ⟨i, j, rfl, q⟩ := h
  obtain ⟨u, w', rfl, ⟨t, rfl⟩, ⟨t', rfl⟩⟩ := vals2 r
  exact call_range_2 ⟨.ref _, _, I.rng, rfl, q _ (I.hok.fresh (Nat.le_refl _))⟩
structure pR (lo hi st : Int) (n : Nat) : Prop where
  sm : Builtin.Range.small lo hi st = true
  sz : Builtin.Range.rangeSize lo hi st = n
  le : n <= 2 ^ 20
theorem Inv.G6 {pins : List (Addr × Obj)} {σ : St} {H : Hp} {s : Shared} {p : Addr} {lo hi st : Int} (I : Inv X pins σ H s) (h : H p = some (rJ p lo hi st)) : ∃ t u v, IsRange s.heap p lo hi st t u v := by
  obtain ⟨⟨t, u, v, e⟩, _⟩ := I.hok p _ h
  exact ⟨t, u, v, e⟩
theorem qv (hc : X.calm = true) : bO X (.type "list") (fun vs H Q => ∃ p lo hi st n, vs = [.ref p] /\ H p = some (rJ p lo hi st) /\ pR lo hi st n /\ ∀ l, H l = none -> Q (.ref l) (upd H l (.lst ((qq lo st n).map V.int)))) := by
  intro pins s σ H xs us Q I r h
  obtain ⟨p, lo, hi, st, n, rfl, hp, ok, q⟩ := h
  obtain ⟨u, rfl, rx⟩ := vals1 r
  cases rx
  obtain ⟨t, u, v, hr⟩ := I.G6 hp
  have hn := ok.le
  refine call_list_range (I.ok.hd hc) hr ok.sm ok.sz (by omega) fun h' tk acc c kp e hi => ?_
  have hv := wq hi
  refine ⟨.ref s.heap.objs.size, _, I.laid (t' := tk) kp (Nat.le_refl _) (show cK X.prog X.w _ h' _ (.lst _) from ⟨?_, acc.toList, c, hv, by simpa using e⟩), rfl, q _ (I.hok.fresh (Nat.le_refl _))⟩
  rw [List.length_map, mM, sizeLine_eq]; omega
end
section
variable {X : Cx}
theorem AF {a b : Int} (h1 : -1000000 <= a) (h2 : a <= 1000000) (h3 : -1000000 <= b) (h4 : b <= 1000000) (h : b - a <= 1000000) : pR a b 1 (b - a).toNat :=
  ⟨small_one (by omega) (by omega) (by omega) (by omega), by rw [rangeSize_one]; split <;> omega, by omega⟩
theorem Vals.get' {xs : List V} {us : List Value} {i : Nat} {u : Value} (r : Vals xs us) (h : us[i]? = some u) : ∃ x, xs[i]? = some x /\ RelV x u := by
  have hl := r.length
  have hi : i < xs.length := by rw [hl]; exact (List.getElem?_eq_some_iff.mp h).1
  obtain ⟨u', e1, e2⟩ := r.get (List.getElem?_eq_getElem hi)
  rw [h] at e1; cases e1
  exact ⟨_, List.getElem?_eq_getElem hi, e2⟩
end
theorem yh {ns : List Int} (h : ns.Nodup) : (unl ns).length = ns.length := by
  have key : ∀ (l acc : List Int), (acc ++ l).Nodup -> l.foldl step_dedup acc = acc ++ l := by
    intro l
    induction l with
    | nil => intro acc _; simp
    | cons a r ih =>
      intro acc hn
      have h1 : a ∉ acc := by
        have := List.nodup_append.mp hn
        exact fun hm => this.2.2 a hm a (by simp) rfl
      have e : step_dedup acc a = acc ++ [a] := by
        unfold step_dedup
        have : acc.any (· == a) = false := by
          rw [Bool.eq_false_iff]
          intro z
          obtain ⟨x, hx, e⟩ := List.any_eq_true.mp z
          have : x = a := by simpa using e
          exact h1 (this ▸ hx)
        simp [this]
      rw [List.foldl_cons, e, ih (acc ++ [a]) (by rw [List.append_assoc]; exact hn), List.append_assoc]
      rfl
  have e : (List.range ns.length).map (fun i => ns.getD i 0) = ns := by
    apply List.ext_getElem
    · simp
    · intro i h1 h2
      simp [List.getD_eq_getElem?_getD, List.getElem?_eq_getElem h2]
  unfold unl firstMet
  rw [e, key ns [] (by simpa using h)]
  rfl
theorem Inv.D1 {X : Cx} {pins : List (Addr × Obj)} {σ : St} {H : Hp} {s : Shared} {C : Addr} {o : Obj} {h' : Heap} (I : Inv X (pins ++ [(C, o)]) σ H s) (cC : ∀ x c, X.env.cells.lookup x = some c -> c ≠ C) (hC : X.ay.heap.objs.size <= C) (pC : ∀ p ∈ X.pn ++ pins, p.1 ≠ C) (hs : Heap.SameBut C s.heap h') : Inv X pins σ H { s with heap := h' } := by
  have kb : ∀ b u, b ≠ C -> s.heap.get? b = some u -> h'.get? b = some u := fun b u hb z => hs.extBut b u hb z
  obtain ⟨q0, q1, q2, q3, q4⟩ := I.pin (C, o) (List.mem_append_right _ (List.mem_append_right _ (List.mem_singleton.mpr rfl)))
  have J : Inv X pins σ H s := I.kM fun p hp => I.pin p (List.mem_append_right _ (List.mem_append_left _ hp))
  refine J.rh (s' := { s with heap := h' }) (ch := [C]) rfl ⟨fun b u z n a c => kb b u (fun e => c (by rw [e]; exact List.mem_singleton.mpr rfl)) z, fun b u z n a c => ⟨u.slots, kb b _ (fun e => c (by rw [e]; exact List.mem_singleton.mpr rfl)) z⟩, fun b u z n c => n, fun b u z c => ⟨u, kb b u (fun e => c (by rw [e]; exact List.mem_singleton.mpr rfl)) z⟩, fun b xs z => z, fun b ob u z => z, fun b ps z => ⟨#[], by simpa using z⟩⟩ (J.hok.sameBut q1 kb) J.bare fun b hb => ?_
  have e := List.mem_singleton.mp hb
  subst e
  exact ⟨.inr hC, q2, fun x c z => cC x c z, pC⟩
section
variable {prog : Program} {w : World} {A : Around} {E : Value -> Shared -> Prop} {s : Shared}
theorem hJ {it t : Addr} {i : Nat} {its : Array Value} {x : Value} {Q : Value -> Shared -> Prop} (hi : s.heap.IsTupleIter it t i) (ht : s.heap.IsTuple t its) (hx : its[i]? = some x) (hQ : ∀ h', h'.IsTupleIter it t (i + 1) -> Heap.SameBut it s.heap h' -> Q x { s with heap := h' }) :
    wpAny (model prog w) A (Builtin.SmallTypes.nextOf (.ref it)) Q E s := by
  obtain ⟨oi, h1, h2, h3⟩ := id hi
  obtain ⟨ot, k1, _, nt, k2⟩ := ht
  unfold Builtin.SmallTypes.nextOf
  refine wpAny_bind (wpAny_callSpecial?_slot (name := Str.ofString "__next__") hi.typeIs F.slot_tuple_iterator_next (wpAny_call_entry F.slot_tuple_iterator_next hi.typeIs F.entry_tuple_iterator_next ?_ (F.args_tuple_iterator_next_1 _)))
  refine wpAny_bind (m := field (.ref it) 0) (wpAny_field h1 h3 (x := .ref t) rfl ?_)
  show wpAny _ _ (if (Value.ref t == Value.none) = true then _ else field (.ref it) 1 >>= _) _ _ s
  rw [if_neg (show ¬ ((Value.ref t == Value.none) = true) from Bool.false_ne_true)]
  refine wpAny_bind (wpAny_field h1 h3 (x := .int i 0) rfl (wpAny_bind (m := seqItems? (.ref t)) (wpAny_seqItems k1 k2 ?_)))
  simp only [Int.toNat_natCast, hx]
  exact wpAny_bind (wpAny_setField h1 h3 (by simp) (wpAny_pure ⟨x, rfl, wpAny_pure (hQ _ ⟨_, Heap.get?_update_self _ h1 (Obj.isFreed_of_fields (Obj.data_mapFields h3 _)), (Obj.cls_mapFields ..).trans h2, by rw [Obj.data_mapFields h3]; simp [rawInt]⟩ (Heap.SameBut.update ..))⟩))
theorem jM {it t : Addr} {i : Nat} {its : Array Value} {Q : Value -> Shared -> Prop} (hh : A.handled = none) (hi : s.heap.IsTupleIter it t i) (ht : s.heap.IsTuple t its) (hx : its[i]? = none)
    (hE : ∀ h' e, Heap.ExtBut it s.heap h' -> (∃ o, h'.get? e = some o /\ o.cls = .type "StopIteration") -> E (.ref e) { s with heap := h' }) : wpAny (model prog w) A (Builtin.SmallTypes.nextOf (.ref it)) Q E s := by
  obtain ⟨oi, h1, h2, h3⟩ := id hi
  obtain ⟨ot, k1, _, nt, k2⟩ := ht
  unfold Builtin.SmallTypes.nextOf
  refine wpAny_bind (wpAny_callSpecial?_slot (name := Str.ofString "__next__") hi.typeIs F.slot_tuple_iterator_next (wpAny_call_entry F.slot_tuple_iterator_next hi.typeIs F.entry_tuple_iterator_next ?_ (F.args_tuple_iterator_next_1 _)))
  refine wpAny_bind (m := field (.ref it) 0) (wpAny_field h1 h3 (x := .ref t) rfl ?_)
  show wpAny _ _ (if (Value.ref t == Value.none) = true then _ else field (.ref it) 1 >>= _) _ _ s
  rw [if_neg (show ¬ ((Value.ref t == Value.none) = true) from Bool.false_ne_true)]
  refine wpAny_bind (wpAny_field h1 h3 (x := .int i 0) rfl (wpAny_bind (m := seqItems? (.ref t)) (wpAny_seqItems k1 k2 ?_)))
  simp only [Int.toNat_natCast, hx]
  refine wpAny_bind (wpAny_rule (wpAny_bind (wpAny_setField h1 h3 (by simp) (wpAny_bind (m := newExc (.type "StopIteration") []) ?_))))
  simp only [newExc, newTuple]
  refine wpAny_bind (wpAny_newObj_type (wpAny_bind (m := firstArgMember _ _) (wpAny_of_eq (a := Value.none) (by first | rfl | (simp only [firstArgMember]; rfl)) (wpAny_newObj_type ?_ (by size_fits)))) (by size_fits))
  simp only [raiseNew]
  refine wpAny_bind (wpAny_handled ?_)
  first | rw [show A.in1.handled = none from hh] | rw [hh]
  exact wpAny_bind (wpAny_pure (wpAny_throw (hE _ _ (((Heap.SameBut.update ..).extBut.push _).push _) ⟨_, Heap.get?_push_size _ rfl, rfl⟩)))
end
theorem Draws.tup {prog : Program} {w : World} {A : Around} (hh : A.handled = none) (it t : Addr) (hne : t ≠ it) (its : Array Value) : Draws prog w A it [it, t] its.size (fun i v => its[i]? = some v) (fun i h => h.IsTupleIter it t i /\ h.IsTuple t its) where
  live := fun _ _ z => let ⟨o, ho, _⟩ := z.1; ⟨o, ho⟩
  frame := fun _ _ _ z hk => ⟨z.1.at fun o e => hk it (by simp) o e, z.2.at fun o e => hk t (by simp) o e⟩
  item := fun i s Q E hi z hQ => hJ z.1 z.2 (x := its[i]) (by simp [hi]) fun h' a b => hQ _ h' s.toks (by simp [hi]) ⟨a, z.2.extBut b.extBut hne⟩ b
  done := fun s Q E z hE => jM hh z.1 z.2 (by simp) hE
section
open AutoSeq1 (wpAny_loadPart')
theorem wo (t : Addr) (its : Array Value) (n : Nat) (dct : Option Addr) (sl : Array (Option Value)) :
    Meets (Builtin.«enumerate.__new__» ⟨[.type "enumerate", .ref t], []⟩) (fun _ R s => s.heap.get? t = some { cls := .type "tuple", dict := dct, data := .seq its n, slots := sl } ∧
      R (.ok (.ret (.ref (s.heap.push { cls := .type "tuple_iterator", data := .fields #[.ref t, .int 0 0] }).objs.size))) { s with heap := (s.heap.push { cls := .type "tuple_iterator", data := .fields #[.ref t, .int 0 0] }).push { cls := .type "enumerate", data := .fields #[.none, .bool false, .ref s.heap.objs.size, rawInt 0, .none, .none] } }) :=
  .of_wp fun prog w A R s z => by
    obtain ⟨hp, gs, dr, tk, os⟩ := s; obtain ⟨ht, z⟩ := z
    have su := sub_enumerate
    have hT : Heap.IsTuple (Shared.heap ⟨hp, gs, dr, tk, os⟩) t its := ⟨_, ht, rfl, n, rfl⟩
    wp_walk using wpAny_loadPart' ht
    refine wpAny_stack_any fun st => wpAny_pure ?_
    split
    · rename_i c _ _ _ _ _
      cases (c == Value.type "enumerate") <;> (wp_walk using wpAny_loadPart' ht, wpAny_pyIter_tuple hT; exact ⟨_, rfl, z⟩)
    · (wp_walk using wpAny_loadPart' ht, wpAny_pyIter_tuple hT); exact ⟨_, rfl, z⟩
end
section
variable {prog : Program} {w : World} {A : Around} {E : Value -> Shared -> Prop} {s : Shared}
theorem He {t : Addr} {its : Array Value} {Q : Value -> Shared -> Prop} (hT : s.heap.IsTuple t its)
    (q : ∀ h', IsEnum h' (s.heap.objs.size + 1) s.heap.objs.size 0 .none -> h'.IsTupleIter s.heap.objs.size t 0 -> h'.objs.size = s.heap.objs.size + 2 -> (∀ b o, s.heap.get? b = some o -> h'.get? b = some o) -> Q (.ref (s.heap.objs.size + 1)) { s with heap := h' }) :
    wpAny (model prog w) A (call (.type "enumerate") [.ref t]) Q E s := by
  obtain ⟨⟨c, dct, dt, sl⟩, ht, hc, n, hd⟩ := hT
  replace hc : c = .type "tuple" := hc
  replace hd : dt = .seq its n := hd
  subst hc hd
  refine callType_new F.called_enumerate (by decide) (F.typeCall_enumerate_1 _) (F.newCall_enumerate_1 _) (fun obj => F.args_object_init_2 obj _) F.entry_enumerate_new (wo t its n dct sl) ⟨ht, ?_⟩
  have hz : (s.heap.push { cls := .type "tuple_iterator", data := .fields #[.ref t, .int 0 0] }).objs.size = s.heap.objs.size + 1 := Heap.size_push ..
  show _ /\ _
  rw [hz]
  have he : IsEnum ((s.heap.push { cls := .type "tuple_iterator", data := .fields #[.ref t, .int 0 0] }).push { cls := .type "enumerate", data := .fields #[.none, .bool false, .ref s.heap.objs.size, rawInt 0, .none, .none] }) (s.heap.objs.size + 1) s.heap.objs.size 0 .none := by
    have y := Heap.get?_push_size (s.heap.push { cls := .type "tuple_iterator", data := .fields #[.ref t, .int 0 0] }) (o := { cls := .type "enumerate", data := .fields #[.none, .bool false, .ref s.heap.objs.size, rawInt 0, .none, .none] }) rfl
    rw [hz] at y; exact y
  exact ⟨⟨_, he, rfl⟩, q _ he ⟨_, Heap.get?_push_of_some _ (Heap.get?_push_size _ rfl), rfl, rfl⟩ (by rw [Heap.size_push, hz]) fun b o x => Heap.get?_push_of_some _ (Heap.get?_push_of_some _ x)⟩
end
theorem Inv.yielded {X : Cx} {pins : List (Addr × Obj)} {σ : St} {H : Hp} {s : Shared} {fp : List Addr} {T : Addr} {o : HO} {h' : Heap} {t' : Nat} (I : Inv X pins σ H s) (hf : ∀ b ∈ fp, kZ X pins H b) (k : ∀ b u, b ∉ fp -> s.heap.get? b = some u -> h'.get? b = some u)
    (hT : s.heap.objs.size <= T) (new : cK X.prog X.w (upd H T o) h' T o) : Inv X pins σ (upd H T o) { s with heap := h', toks := t' } := by
  have nT : ∀ b u, s.heap.get? b = some u -> b ≠ T := fun b u e z => absurd (Heap.lt_size e) (by rw [z]; exact Nat.not_lt.mpr hT)
  have nH : ∀ b u, H b = some u -> b ≠ T := fun b u e z => absurd (I.hok.lt e) (by rw [z]; exact Nat.not_lt.mpr hT)
  have nf : ∀ b u, H b = some u -> b ∉ fp := fun b u e z => by rw [(hf b z).1] at e; cases e
  refine I.rh (s' := { s with heap := h', toks := t' }) (ch := fp) rfl ⟨fun b u e n _ c => k b u c e, fun b u e n _ c => ⟨u.slots, k b u c e⟩, fun b u e n c => by rw [aW (nT b u e)]; exact n, fun b u e c => ⟨u, k b u c e⟩, fun b xs e => by rw [aW (nH b _ e)]; exact e, fun b ob u e => by rw [aW (nH b _ e)]; exact e, fun b ps e => ⟨#[], by rw [aW (nH b _ e), e]; simp⟩⟩ (fun b u e => ?_) I.bare (fun b hb => ?_)
  · by_cases hb : b = T
    · subst hb
      rw [aY] at e
      cases e
      exact new
    · rw [aW hb] at e
      refine (I.hok b u e).pd (fun c v hc q => k c v ?_ q) (fun c q => by rw [aW (nH c _ q)]; exact q) fun c xs q => by rw [aW (nH c _ q)]; exact q
      rcases hc with z | z
      · rw [z]; exact nf b u e
      · exact nf c _ z
  · obtain ⟨_, g1, _, g3, g4, g5⟩ := hf b hb
    exact ⟨g3, g1, g4, g5⟩
theorem Inv.nO {X : Cx} {pins : List (Addr × Obj)} {σ : St} {H : Hp} {s : Shared} {fp : List Addr} {h' : Heap} {t' : Nat} (I : Inv X pins σ H s) (hf : ∀ b ∈ fp, kZ X pins H b) (k : ∀ b u, b ∉ fp -> s.heap.get? b = some u -> h'.get? b = some u) : Inv X pins σ H { s with heap := h', toks := t' } := by
  have nf : ∀ b u, H b = some u -> b ∉ fp := fun b u e z => by rw [(hf b z).1] at e; cases e
  refine I.rh (s' := { s with heap := h', toks := t' }) (ch := fp) rfl ⟨fun b u e n _ c => k b u c e, fun b u e n _ c => ⟨u.slots, k b u c e⟩, fun b u e n c => n, fun b u e c => ⟨u, k b u c e⟩, fun b xs e => e, fun b ob u e => e, fun b ps e => ⟨#[], by rw [e]; simp⟩⟩ (fun b u e => ?_) I.bare (fun b hb => ?_)
  · refine (I.hok b u e).pd (fun c v hc q => k c v ?_ q) (fun c q => q) fun c xs q => q
    rcases hc with z | z
    · rw [z]; exact nf b u e
    · exact nf c _ z
  · obtain ⟨_, g1, _, g3, g4, g5⟩ := hf b hb
    exact ⟨g3, g1, g4, g5⟩
noncomputable def Iel (K : PySem.W.Frag) (a : Addr) : It :=
  ⟨fun i H => ∃ xs x, SqL K H a xs /\ xs[i]? = some x, fun i H x H' => ∃ p v, x = .ref p /\ H p = none /\ (∀ xs, SqL K H a xs -> xs[i]? = some v) /\ H' = upd H p (.tup [.int i, v]), fun i H => ∃ xs, SqL K H a xs /\ xs.length <= i⟩
noncomputable def Iet (K : PySem.W.Frag) (a : Addr) : It :=
  ⟨fun i H => ∃ xs x, SqT K H a xs /\ xs[i]? = some x, fun i H x H' => ∃ p v, x = .ref p /\ H p = none /\ (∀ xs, SqT K H a xs -> xs[i]? = some v) /\ H' = upd H p (.tup [.int i, v]), fun i H => ∃ xs, SqT K H a xs /\ xs.length <= i⟩
theorem uU {h : Heap} {e it : Addr} {i : Int} {old : Value} (z : IsEnum h e it i old) : ∃ o, h.get? e = some o /\ ∀ v, o.data ≠ .cell v := ⟨_, z, fun v q => nomatch q⟩
theorem pq {prog : Program} {w : World} {A : Around} {it : Addr} {fp : List Addr} {n : Nat} {P : Nat -> Value -> Prop} {St : Nat -> Heap -> Prop} (D : Draws prog w A.in1 it fp n P St) (e : Addr) (hei : e ≠ it) (hef : e ∉ fp) (i : Nat) (s : Shared) (Q : Option Value -> Shared -> Prop) (E : Value -> Shared -> Prop) (hi : i < n)
    (hst : (∃ old, IsEnum s.heap e it i old) /\ St i s.heap)
    (hQ : ∀ T vals h' tk, (∃ t x, P i x /\ vals = #[.int i t, x]) -> s.heap.objs.size <= T -> lx h' T vals -> ((∃ x, IsEnumOut h' e it ((i : Int) + 1) x T) /\ St (i + 1) h' /\ T ≠ e /\ T ≠ it) -> (∀ b o, b ∉ [e, it] -> s.heap.get? b = some o -> h'.get? b = some o) -> Q (some (.ref T)) { s with heap := h', toks := tk }) :
    wpAny (model prog w) A (pyNext (.ref e)) Q E s := by
  obtain ⟨⟨old, he⟩, hs⟩ := hst
  refine wpAny_pyNext_enum_itemD D he hs hi hei hef fun x h1 tk hP ho hs1 hT _ hk => ?_
  refine hQ s.heap.objs.size #[.int i tk, x] h1 (tk + 1) ⟨tk, x, hP, rfl⟩ (Nat.le_refl _) ⟨_, hT, ⟨rfl, _, rfl⟩, rfl⟩ ⟨⟨_, ho⟩, hs1, Nat.ne_of_gt (Heap.lt_size he), ?_⟩ fun b o hb y => hk b o (fun z => hb (by simp [z])) (fun z => hb (by simp [z])) y
  obtain ⟨_, y⟩ := D.live _ _ hs
  exact Nat.ne_of_gt (Heap.lt_size y)
theorem wF {P : Program} {w : World} {K : PySem.W.Frag} {elts : List Expr} {k : Nat} {pos : Pos} {a it e : Addr} (hei : e ≠ it) : Turn P w K (.Tuple elts k pos) (Iel K a) [e, it] e (fun i h => (∃ old, IsEnum h e it i old) /\ h.IsListIter it a i) where
  mem := by simp
  obj := fun i h z b hb => by
    obtain ⟨⟨old, z1⟩, z2⟩ := z
    rcases List.mem_cons.mp hb with rfl | hb
    · exact uU z1
    · rw [List.mem_singleton.mp hb]
      obtain ⟨o, q, _, d⟩ := z2
      exact ⟨o, q, fun v y => by rw [d] at y; cases y⟩
  keep := fun i h h' z kk => ⟨let ⟨old, z1⟩ := z.1; ⟨old, kk e (by simp) _ z1⟩, z.2.at fun o q => kk it (by simp) o q⟩
  item := by
    intro X hP hw hK hc i pins s σ H E I hf st hg
    subst hP hw hK
    obtain ⟨xs, x, hq, hx⟩ := hg
    obtain ⟨its, rv, p, hz⟩ := I.list hq
    obtain ⟨u, hu, ru⟩ := rv.get hx
    have hl := rv.length
    have plt : a < s.heap.objs.size := by obtain ⟨o, q, _⟩ := p.isList; exact Heap.lt_size q
    have hai : a ≠ it /\ a ≠ e := by
      obtain ⟨oa, qa, ca, _⟩ := p.isList
      obtain ⟨⟨old, z1⟩, oi, qi, ci, _⟩ := st
      exact ⟨(fun q => by rw [q, qi] at qa; cases qa; rw [ci] at ca; injection ca with y; exact absurd y (by decide)), (fun q => by rw [q, z1] at qa; cases qa; injection ca with y; exact absurd y (by decide))⟩
    have DD := (Draws.list (prog := X.prog) (w := X.w) (A := X.A.in1) (I.ok.hd hc) it a hai.1 its.toArray)
    have hef0 : e ∉ [it, a] := by simp; exact ⟨hei, fun q => hai.2 q.symm⟩
    have W := WalksT.enumerateD (prog := X.prog) (w := X.w) (A := X.A) DD e hei hef0 (by simp)
    refine pq DD e hei hef0 i s _ _ (by rw [List.size_toArray, <- hl]; exact (List.getElem?_eq_some_iff.mp hx).1) ⟨st.1, st.2, p.isList⟩ fun T vals h1 tk hv hT ht hm k1 => ?_
    obtain ⟨t, v, hv1, hv2⟩ := hv
    have ev : v = u := by
      have : its[i]? = some v := by simpa using hv1
      rw [hu] at this; exact (Option.some.inj this).symm
    subst ev
    refine ⟨.ref T, rfl, W.go elts k pos i T { s with heap := h1, toks := tk } _ _ hm fun h2 st2 k2 => ?_⟩
    have kk : ∀ b o, b ∉ [e, it] -> s.heap.get? b = some o -> h2.get? b = some o := fun b o hb q => k2 b o hb (k1 b o hb q)
    have hT2 : lx h2 T vals := by
      obtain ⟨o, q, c⟩ := ht
      exact ⟨o, k2 T o (fun z => W.apart _ _ _ hm z) q, c⟩
    have hn : H T = none := I.hok.fresh hT
    have nTf : ∀ b ∈ [e, it], b ≠ T := fun b hb z => by
      have hlt : b < s.heap.objs.size := by
        rcases List.mem_cons.mp hb with rfl | hb
        · obtain ⟨old, z1⟩ := st.1; exact Heap.lt_size z1
        · rw [List.mem_singleton.mp hb]; obtain ⟨o, q, _⟩ := st.2; exact Heap.lt_size q
      rw [z] at hlt; exact absurd hlt (Nat.not_lt.mpr hT)
    refine ⟨.ref T, upd H T (.tup [.int i, x]), I.yielded (t' := tk) hf kk hT ⟨by show 2 <= sizeLine; decide, [.int i t, v], .cons ⟨t, rfl⟩ (.cons ru .nil), ?_⟩, rfl, ⟨T, x, rfl, hn, fun ys hy => by rw [I.jk hy hq]; exact hx, rfl⟩, ⟨st2.1, st2.2.1⟩, fun b hb => by rw [aW (nTf b hb)]; exact (hf b hb).1⟩
    rw [hv2] at hT2; exact hT2
  done := by
    intro X hP hw hK hc i pins s σ H E I hf st hg
    subst hP hw hK
    obtain ⟨xs, hq, hx⟩ := hg
    obtain ⟨its, rv, p, hz⟩ := I.list hq
    obtain ⟨⟨old, z1⟩, z2⟩ := st
    have hl := rv.length
    exact wpAny_pyNext_enum_end (I.ok.hd hc) z1 z2 p.isList (Array.getElem?_eq_none (by rw [List.size_toArray]; omega)) fun h' eb => ⟨rfl, I.nO (t' := s.toks) hf fun b u hb q => eb b u (fun z => hb (by simp [z])) q⟩
  self := fun A i s Q E z q => by
    obtain ⟨⟨old, z1⟩, z2⟩ := z
    exact wpAny_pyIter_enum z1 q
theorem vY {P : Program} {w : World} {K : PySem.W.Frag} {elts : List Expr} {k : Nat} {pos : Pos} {a it e : Addr} (hei : e ≠ it) : Turn P w K (.Tuple elts k pos) (Iet K a) [e, it] e (fun i h => (∃ old, IsEnum h e it i old) /\ h.IsTupleIter it a i) where
  mem := by simp
  obj := fun i h z b hb => by
    obtain ⟨⟨old, z1⟩, z2⟩ := z
    rcases List.mem_cons.mp hb with rfl | hb
    · exact uU z1
    · rw [List.mem_singleton.mp hb]
      obtain ⟨o, q, _, d⟩ := z2
      exact ⟨o, q, fun v y => by rw [d] at y; cases y⟩
  keep := fun i h h' z kk => ⟨let ⟨old, z1⟩ := z.1; ⟨old, kk e (by simp) _ z1⟩, z.2.at fun o q => kk it (by simp) o q⟩
  item := by
    intro X hP hw hK hc i pins s σ H E I hf st hg
    subst hP hw hK
    obtain ⟨xs, x, hq, hx⟩ := hg
    obtain ⟨its, rv, p, hz⟩ := I.tuple hq
    obtain ⟨u, hu, ru⟩ := rv.get hx
    have hl := rv.length
    have plt : a < s.heap.objs.size := by obtain ⟨o, q, _⟩ := (show s.heap.IsTuple a its.toArray from p); exact Heap.lt_size q
    have hai : a ≠ it /\ a ≠ e := by
      obtain ⟨oa, qa, ca, _⟩ := (show s.heap.IsTuple a its.toArray from p)
      obtain ⟨⟨old, z1⟩, oi, qi, ci, _⟩ := st
      exact ⟨(fun q => by rw [q, qi] at qa; cases qa; rw [ci] at ca; injection ca with y; exact absurd y (by decide)), (fun q => by rw [q, z1] at qa; cases qa; injection ca with y; exact absurd y (by decide))⟩
    have DD := (Draws.tup (prog := X.prog) (w := X.w) (A := X.A.in1) (I.ok.hd hc) it a hai.1 its.toArray)
    have hef0 : e ∉ [it, a] := by simp; exact ⟨hei, fun q => hai.2 q.symm⟩
    have W := WalksT.enumerateD (prog := X.prog) (w := X.w) (A := X.A) DD e hei hef0 (by simp)
    refine pq DD e hei hef0 i s _ _ (by rw [List.size_toArray, <- hl]; exact (List.getElem?_eq_some_iff.mp hx).1) ⟨st.1, st.2, (show s.heap.IsTuple a its.toArray from p)⟩ fun T vals h1 tk hv hT ht hm k1 => ?_
    obtain ⟨t, v, hv1, hv2⟩ := hv
    have ev : v = u := by
      have : its[i]? = some v := by simpa using hv1
      rw [hu] at this; exact (Option.some.inj this).symm
    subst ev
    refine ⟨.ref T, rfl, W.go elts k pos i T { s with heap := h1, toks := tk } _ _ hm fun h2 st2 k2 => ?_⟩
    have kk : ∀ b o, b ∉ [e, it] -> s.heap.get? b = some o -> h2.get? b = some o := fun b o hb q => k2 b o hb (k1 b o hb q)
    have hT2 : lx h2 T vals := by
      obtain ⟨o, q, c⟩ := ht
      exact ⟨o, k2 T o (fun z => W.apart _ _ _ hm z) q, c⟩
    have hn : H T = none := I.hok.fresh hT
    have nTf : ∀ b ∈ [e, it], b ≠ T := fun b hb z => by
      have hlt : b < s.heap.objs.size := by
        rcases List.mem_cons.mp hb with rfl | hb
        · obtain ⟨old, z1⟩ := st.1; exact Heap.lt_size z1
        · rw [List.mem_singleton.mp hb]; obtain ⟨o, q, _⟩ := st.2; exact Heap.lt_size q
      rw [z] at hlt; exact absurd hlt (Nat.not_lt.mpr hT)
    refine ⟨.ref T, upd H T (.tup [.int i, x]), I.yielded (t' := tk) hf kk hT ⟨by show 2 <= sizeLine; decide, [.int i t, v], .cons ⟨t, rfl⟩ (.cons ru .nil), ?_⟩, rfl, ⟨T, x, rfl, hn, fun ys hy => by rw [I.gP hy hq]; exact hx, rfl⟩, ⟨st2.1, st2.2.1⟩, fun b hb => by rw [aW (nTf b hb)]; exact (hf b hb).1⟩
    rw [hv2] at hT2; exact hT2
  done := by
    intro X hP hw hK hc i pins s σ H E I hf st hg
    subst hP hw hK
    obtain ⟨xs, hq, hx⟩ := hg
    obtain ⟨its, rv, p, hz⟩ := I.tuple hq
    obtain ⟨⟨old, z1⟩, z2⟩ := st
    have hl := rv.length
    have pt : s.heap.IsTuple a its.toArray := p
    have DD : Draws X.prog X.w X.A.in1 it [it, a] i (fun _ _ => True) (fun j h => j = i /\ h.IsTupleIter it a j /\ h.IsTuple a its.toArray) := {
      live := fun _ _ z => let ⟨o, ho, _⟩ := z.2.1; ⟨o, ho⟩
      frame := fun _ _ _ z hk => ⟨z.1, z.2.1.at fun o e => hk it (by simp) o e, z.2.2.at fun o e => hk a (by simp) o e⟩
      item := fun j s Q E hj z hQ => absurd z.1 (Nat.ne_of_lt hj)
      done := fun s Q E z hE => jM (I.ok.hd hc) z.2.1 z.2.2 (Array.getElem?_eq_none (by rw [List.size_toArray]; omega)) hE }
    exact wpAny_pyNext_enum_endD DD z1 ⟨rfl, z2, pt⟩ fun h' eb => ⟨rfl, I.nO (t' := s.toks) hf fun b u hb q => eb b u (fun z => hb (by simp [z])) q⟩
  self := fun A i s Q E z q => by
    obtain ⟨⟨old, z1⟩, z2⟩ := z
    exact wpAny_pyIter_enum z1 q
noncomputable def Hg (K : PySem.W.Frag) (tl : TE) : TI := fun σ H R => tl σ H fun x H1 => ∃ a, x = .ref a /\ (((∃ xs, SqL K H1 a xs) /\ R (Iel K a) H1) \/ ((∃ xs, SqT K H1 a xs) /\ R (Iet K a) H1))
theorem Ck {X : Cx} {elts : List Expr} {kt : Nat} {tp p pos : Pos} {l : Expr} {tl : TE} (hg : Gl X "enumerate") (hm : X.mg "enumerate" = none) (hl : PE X l tl) (hs : starEach [l] X.env = [(false, eval l X.env)] := by rfl) :
    PI X (.Tuple elts kt tp) (.Call (.Name "enumerate" p) [l] [] pos) (Hg X.K tl) := by
  intro pins s σ H R I h
  have h' : DL tl EJ σ H (fun vs H1 => match vs with
    | [x] => ∃ a, x = .ref a /\ (((∃ xs, SqL X.K H1 a xs) /\ R (Iel X.K a) H1) \/ ((∃ xs, SqT X.K H1 a xs) /\ R (Iet X.K a) H1))
    | _ => False) := h
  refine Call_ (iG I hg hm PyProof.Rows.boot_enumerate (PyProof.Rows.callWith_type1 (thn (lE hl r9 hs pos pins s σ H _ I h') fun us s1 ⟨vs, H1, I1, r1, q1⟩ => ?_) hs rfl))
  cases r1 with
  | nil => exact q1.elim
  | cons r rr =>
    cases rr with
    | cons _ _ => exact q1.elim
    | nil =>
      obtain ⟨a, rfl, q⟩ := q1
      cases r
      have fp : ∀ {h' : Heap}, ∀ b ∈ [s1.heap.objs.size + 1, s1.heap.objs.size], kZ X pins H1 b := fun {h'} b hb => by
        have hb' : s1.heap.objs.size <= b := by
          rcases List.mem_cons.mp hb with z | hb
          · omega
          · have := List.mem_singleton.mp hb; omega
        exact I1.ya hb' (I1.hok.fresh hb')
      rcases q with ⟨⟨xs, hq⟩, q⟩ | ⟨⟨xs, hq⟩, q⟩
      · obtain ⟨its, rv, pl, hz⟩ := I1.list hq
        refine call_enumerate_list pl.isList fun h2 z1 z2 hsz kp => wpAny_pyIter_enum (s := { s1 with heap := h2 }) z1 ?_
        exact ⟨s1.heap.objs.size + 1, [s1.heap.objs.size + 1, s1.heap.objs.size], _, _, H1, rfl, I1.kept (t' := s1.toks) kp, wF (a := a) (Nat.succ_ne_self _), ⟨⟨_, z1⟩, z2⟩, fp (h' := h2), q⟩
      · obtain ⟨its, rv, pl, hz⟩ := I1.tuple hq
        refine He (show s1.heap.IsTuple a its.toArray from pl) fun h2 z1 z2 hsz kp => wpAny_pyIter_enum (s := { s1 with heap := h2 }) z1 ?_
        exact ⟨s1.heap.objs.size + 1, [s1.heap.objs.size + 1, s1.heap.objs.size], _, _, H1, rfl, I1.kept (t' := s1.toks) kp, vY (a := a) (Nat.succ_ne_self _), ⟨⟨_, z1⟩, z2⟩, fp (h' := h2), q⟩
noncomputable def qh (nt : Nat) (ix : List Nat) (σ : St) : St := List.replicate nt none ++ ix.map fun i => (σ[i]?).join
noncomputable def iR (nt : Nat) (ix : List Nat) (σ σ' : St) : Prop := ∃ ts : St, ts.length = nt /\ σ' = ts ++ ix.map fun i => (σ[i]?).join
noncomputable abbrev D2 (J : It) (nt : Nat) (ix : List Nat) (σ : St) (tg : TG) (tt : TT) (te : TE) (acc : Addr) (H1 : Hp) (Q : VK) : Prop :=
  ∃ W : Nat -> Nat -> List V -> Hp -> Prop, (∃ m, W 0 m [] (upd H1 acc (.lst []))) /\ ∀ i m ys H, W i m ys H →
    (J.stop i H /\ Q (.ref acc) H) \/ (J.go i H /\ ∀ σ0 x H', iR nt ix σ σ0 -> J.yld i H x H' -> tg x σ0 H' fun σ2 Hn => iR nt ix σ σ2 /\ tt σ2 Hn fun b H2 => if b = true then te σ2 H2 fun y H3 =>
        H3 acc = some (.lst ys) /\ ys.length < sizeLine /\ ∃ m', m' < m /\ W (i + 1) m' (ys ++ [y]) (upd H3 acc (.lst (ys ++ [y])))
      else ∃ m', m' < m /\ W (i + 1) m' ys H2)
noncomputable def o7 (wi : TI) (nt : Nat) (ix : List Nat) (tg : TG) (tt : TT) (te : TE) : TE := fun σ H Q => wi σ H fun J H1 => ∀ acc, H1 acc = none -> D2 J nt ix σ tg tt te acc H1 Q
theorem qV {X : Cx} {use : Option (Value -> Sem Unit)} {Q2 : Value -> Shared -> Prop} {pins : List (Addr × Obj)} {s : Shared} {σ : St} {H : Hp} {Q : VK} {elt iter tg : Expr} {tn' : List Str} {tgr : TG} {ifs : List Expr} {scope osc : Scope} {pos : Pos} {wi : TI} {tt : TT} {te : TE} (ix : List Nat) (N' : List Str)
    (hxe : X.xe = fun _ _ => False) (hc : X.calm = true) (ho : X.env.scope = osc) (hN : N' = tn' ++ ix.map fun i => (X.N[i]?).getD ("" : Str)) (hnd : N'.Nodup)
    (hall : (∀ y ∈ scope.names, y.2 = .free -> osc.names.lookup y.1 = some .cell) /\ (∀ y ∈ scope.names, y.2 ≠ .cell) /\ scope.kind = .function /\ (∀ y ∈ scope.names, y.2 = .local -> scope.names.lookup y.1 = some .local) /\ (∀ y ∈ N'.drop tn'.length, scope.names.lookup y = some .free))
    (hi : PI X tg iter wi) (hg : ∀ cl C ay aB fp, PG (bf X scope cl C ay aB fp N') tg tgr)
    (ht : ∀ cl C ay aB fp, PTs (bf X scope cl C ay aB fp N') ifs tt)
    (he : ∀ cl C ay aB fp, PE (bf X scope cl C ay aB fp N') elt te)
    (hs : ∀ x, foldedSetIterable iter X.env x = pure x) (I : Inv X pins σ H s) (h : o7 wi tn'.length ix tgr tt te σ H Q)
    (hfin : ∀ (acc C : Addr) (H5 : Hp) (s5 : Shared) (o : Obj), Inv X (pins ++ [(C, o)]) σ H5 s5 -> (∀ x c, X.env.cells.lookup x = some c -> c ≠ C) -> X.ay.heap.objs.size <= C -> (∀ p ∈ X.pn ++ pins, p.1 ≠ C) -> (∃ m, ∀ h' : Heap, h'.get? C = some o -> h'.Ns C m) -> Q (.ref acc) H5 -> compPost (model X.prog X.w) X.A X.xe use Q2 (.ref acc) C (.ok .next) s5) :
    wpAny (model X.prog X.w) X.A (comprehension (.ListComp elt [⟨tg, iter, ifs, 0⟩] scope pos) scope X.env (firstIterPos [⟨tg, iter, ifs, 0⟩] pos) (newList []) false (eval iter X.env) use) Q2 X.xe s := by
  obtain ⟨hfr, hcell, hkind, hnames, hcap⟩ := hall
  subst ho
  have outc : ∀ y ∈ scope.names, y.2 = .free -> X.env.kindOf y.1 = some .cell := fun y hy q => hfr y hy q
  obtain ⟨cl, hclos, hcl1, hcl2⟩ := gK (env := X.env) (scope := scope) fun y hy q => I.ok.has y.1 (.inl (outc y hy q))
  refine wpAny_comprehension_free (use := use) rfl hs hclos hkind hnames (thn (hi pins s σ H _ I h) fun v s1 h1 => thn h1 fun itv s2 h2 => ?_)
  obtain ⟨it, fp, tn, J, H2, e, I2, T, st2, f2, rest⟩ := h2
  subst e
  have hf2 : H2 s2.heap.objs.size = none := I2.hok.fresh (Nat.le_refl _)
  obtain ⟨W, ⟨m0, w0⟩, turn⟩ := rest s2.heap.objs.size hf2
  -- the list
  refine wpAny_newObj_type ?_
  have I3 : Inv X pins σ (upd H2 s2.heap.objs.size (.lst [])) { s2 with heap := s2.heap.push { cls := .type "list", dict := none, data := .seq ([] : List Value).toArray } } := I2.zp (its := []) (t' := s2.toks) .nil (Nat.zero_le _)
  have keep3 : ∀ b o, s2.heap.get? b = some o -> (s2.heap.push { cls := .type "list", dict := none, data := .seq ([] : List Value).toArray }).get? b = some o := fun b o q => Heap.get?_push_of_some _ q
  have fp3 : ∀ b ∈ fp, ∃ o, s2.heap.get? b = some o /\ ∀ v, o.data ≠ .cell v := T.obj _ _ st2
  have st3 : tn 0 (s2.heap.push { cls := .type "list", dict := none, data := .seq ([] : List Value).toArray }) := T.keep _ _ _ st2 fun b _ o q => keep3 b o q
  have fpn : ∀ b ∈ fp, (upd H2 s2.heap.objs.size (HO.lst [])) b = none := fun b hb => by
    obtain ⟨o, q, _⟩ := fp3 b hb
    rw [aW (Nat.ne_of_lt (Heap.lt_size q))]
    exact (f2 b hb).1
  revert I3 keep3 st3 fpn w0
  generalize hS3 : ({ s2 with heap := s2.heap.push { cls := .type "list", dict := none, data := .seq ([] : List Value).toArray } } : Shared) = s3
  generalize hH3 : upd H2 s2.heap.objs.size (HO.lst []) = H3
  intro w0 I3 keep3 st3 fpn
  have acc3 : H3 s2.heap.objs.size = some (.lst []) := by rw [<- hH3]; exact aY
  generalize s2.heap.objs.size = acc at *
  have e3 : s2.heap.push { cls := .type "list", dict := none, data := .seq ([] : List Value).toArray } = s3.heap := by rw [<- hS3]
  have keep3' : ∀ b o, s2.heap.get? b = some o -> s3.heap.get? b = some o := fun b o q => by rw [<- e3]; exact keep3 b o q
  have st3' : tn 0 s3.heap := by rw [<- e3]; exact st3
  refine wpAny_newFunctionEnv hcell (by intro y hy; simp at hy) (fun h₁ hns₁ hsb₁ => ?_) hkind
  have hC : s3.heap.objs.size = s3.heap.objs.size := rfl
  have keep4 : ∀ b o, s3.heap.get? b = some o -> h₁.get? b = some o := fun b o q => hsb₁.extBut b o (Nat.ne_of_lt (Heap.lt_size q)) (Heap.get?_push_of_some _ q)
  have fpC : ∀ b ∈ fp, b ≠ s3.heap.objs.size := fun b hb => by
    obtain ⟨o, q, _⟩ := fp3 b hb
    exact Nat.ne_of_lt (Heap.lt_size (keep3' b o q))
  -- the block's context
  generalize hX' : bf X scope cl s3.heap.objs.size s3 H3 fp N' = X'
  have hXp : X'.prog = X.prog := by rw [<- hX']; rfl
  have hXw : X'.w = X.w := by rw [<- hX']; rfl
  have hXK : X'.K = X.K := by rw [<- hX']; rfl
  have hXA : X'.A = X.A := by rw [<- hX']; rfl
  have hXe : X'.env = compEnvC scope cl s3.heap.objs.size X.env := by rw [<- hX']; rfl
  have hXc : X'.calm = true := by rw [<- hX']; exact hc
  have hXx : X'.xe = fun _ _ => False := by rw [<- hX']; exact hxe
  have hXf : X'.fs = frs X.stack := by rw [<- hX']; rfl
  have hXex : X'.ex = fp := by rw [<- hX']; rfl
  have hXN : X'.N = N' := by rw [<- hX']; rfl
  have hXs : X'.ay = s3 := by rw [<- hX']; rfl
  have hXH : X'.aB = H3 := by rw [<- hX']; rfl
  have hXpn : X'.pn = [] := by rw [<- hX']; rfl
  have okX : X'.Ok := by
    rw [<- hX']
    refine ⟨I3.ok.mod, hkind, I3.ok.glob, I3.ok.blt, Nat.le_refl _, fun a b c p q => I3.ok.inj a b c (hcl1 a c p) (hcl1 b c q), fun y hy => ?_, fun _ _ z => (by cases z), I3.ok.hd, I3.ok.frames, .inl rfl, fun b hb => ⟨fpC b hb, fun y c p => (f2 b hb).2.2.2.2.1 y c (hcl1 y c p)⟩,
      I3.bs, Nat.le_trans I3.ok.bsz I3.sz, fun b o p hb => ?_, fun b hb z => ?_, I3.stack, I3.nU⟩
    · have hy' : (relabel scope X.env).names.lookup y = some .cell \/ (relabel scope X.env).names.lookup y = some .free := hy
      have free : scope.names.lookup y = some .free -> ∃ c, cl.lookup y = some c := fun q => hcl2 y (lookup_mem q)
      rcases hy' with q | q
      · rcases cU q with z | ⟨z, _⟩
        · exact absurd rfl (hcell _ (lookup_mem z))
        · exact free z
      · rcases cU q with z | ⟨_, z⟩
        · exact free z
        · cases z
    · rcases (f2 b hb).2.2.2.1 with z | z
      · exact I3.ok.vB b o p z
      · exact absurd (Nat.lt_of_lt_of_le (Heap.lt_size p) (Nat.le_trans I3.ok.bsz z)) (Nat.lt_irrefl _)
    · rcases List.mem_cons.mp (I3.jq b z) with q | q
      · exact (f2 b hb).2.1 q
      · exact (f2 b hb).2.2.1 q
  have I4 : ∀ tk, Inv X' [] (qh tn'.length ix σ) H3 { s3 with heap := h₁, toks := tk } := fun tk => by
    have hloc := I3.loc
    refine ⟨okX, by rw [hXs], I3.bare, ?_, ⟨fun y => ([] : List (Str × Value)).reverse.lookup y, by rw [hXe]; exact hns₁, fun i y v e1 e2 e3 => ?_⟩, fun y c p => ?_, ?_, fun y c p => ?_, fun p hp => ?_, ?_, ?_⟩
    · rw [hXf, hXex, hXH, hXs]; exact Un.kept keep4
    · rw [hXN, hN] at e1
      by_cases hit' : i < tn'.length
      · exfalso
        unfold qh at e2
        rw [List.getElem?_append_left (by simpa using hit'), List.getElem?_replicate, if_pos hit'] at e2
        cases e2
      · have e10 : N'[i]? = some y := by rw [hN]; exact e1
        obtain ⟨j, rfl⟩ : ∃ j, i = tn'.length + j := ⟨i - tn'.length, by omega⟩
        have e1' : (ix.map fun i => (X.N[i]?).getD ("" : Str))[j]? = some y := by
          rw [List.getElem?_append_right (by omega)] at e1
          rw [show tn'.length + j - tn'.length = j by omega] at e1
          exact e1
        have e2' : (ix.map fun i => (σ[i]?).join)[j]? = some (some v) := by
          unfold qh at e2
          rw [List.getElem?_append_right (by simp)] at e2
          simpa using e2
        rw [List.getElem?_map] at e1' e2'
        cases hj : ix[j]? with
        | none => rw [hj] at e1'; cases e1'
        | some i0 =>
          rw [hj] at e1' e2'
          have e1'' : (X.N[i0]?).getD ("" : Str) = y := by simpa using e1'
          have e2'' : (σ[i0]?).join = some v := by simpa using e2'
          have hsv : σ[i0]? = some (some v) := by
            cases q : σ[i0]? with
            | none => rw [q] at e2''; cases e2''
            | some z => rw [q] at e2''; have : z = some v := by simpa using e2''
                        rw [this]
          have hlt : i0 < X.N.length := by
            have := (List.getElem?_eq_some_iff.mp hsv).1
            rw [I3.len] at this; exact this
          have hNy : X.N[i0]? = some y := by
            rw [List.getElem?_eq_getElem hlt] at e1'' ⊢
            simpa using e1''
          have hyt : y ∈ N'.drop tn'.length := by
            refine List.mem_of_getElem? (i := j) ?_
            rw [List.getElem?_drop]; exact e10
          have hyf := hcap y hyt
          have hyc := outc (y, .free) (lookup_mem hyf) rfl
          obtain ⟨m, hn, hl⟩ := hloc
          obtain ⟨u, r, l⟩ := hl i0 y v hNy hsv (.inr (.inl hyc))
          refine ⟨u, r, ?_⟩
          rcases l with ⟨k1, _⟩ | ⟨_, c, p, z⟩
          · have hyc' : X.env.kindOf y = some .cell := hyc
            rw [k1] at hyc'; cases hyc'
          · obtain ⟨c', p'⟩ := hcl2 y (lookup_mem hyf)
            have pc : c' = c := by
              have := hcl1 y c' p'
              rw [p] at this; cases this; rfl
            subst pc
            refine .inr ⟨.inl ?_, c', by rw [hXe]; exact p', ?_⟩
            · rw [hXe]; exact cM I3.ok.kind hyf hyc
            · obtain ⟨o, q1, q2⟩ := z
              exact ⟨o, keep4 c' o q1, q2⟩
    · rw [hXe] at p
      obtain ⟨v, o, q1, q2⟩ := I3.cell y c (hcl1 y c p)
      exact ⟨v, o, keep4 c o q1, q2⟩
    · rw [hXe]; exact I3.hok.fresh (Nat.le_refl _)
    · rw [hXe] at p; exact I3.iS y c (hcl1 y c p)
    · rw [hXpn] at hp; cases hp
    · rw [hXp, hXw]; exact I3.hok.kept keep4
    · rw [hXN, hN]; simp [qh]
  -- the loop
  have stat : ∀ {H' : Hp}, (∀ b ∈ fp, H' b = none) -> ∀ b ∈ fp, kZ X' [] H' b := fun hn b hb => by
    refine ⟨hn b hb, by rw [hXe]; exact fpC b hb, ?_, .inl (by rw [hXex]; exact hb), fun y c p => ?_, fun p hp => by rw [hXpn] at hp; cases hp⟩
    · rw [hXf]; intro z
      rcases List.mem_cons.mp (I3.jq b z) with q | q
      · exact (f2 b hb).2.1 q
      · exact (f2 b hb).2.2.1 q
    · rw [hXe] at p; exact (f2 b hb).2.2.2.2.1 y c (hcl1 y c p)
  have fin : ∀ {H5 : Hp} {s5 : Shared} {σ5 : St}, Inv X' [] σ5 H5 s5 -> Q (.ref acc) H5 -> compPost (model X.prog X.w) X.A X.xe use Q2 (.ref acc) s3.heap.objs.size (.ok .next) s5 := fun {H5 s5 σ5} I5 q => by
    obtain ⟨m, hn, _⟩ := I5.loc
    rw [hXe] at hn
    have hn' : s5.heap.Ns s3.heap.objs.size m := hn
    obtain ⟨oC, esC, epC, hC1, hC2, hC3⟩ := hn'
    have u5 := I5.base
    rw [hXf, hXex, hXH, hXs] at u5
    have fr : H5 s3.heap.objs.size = none := by have := I5.free; rw [hXe] at this; exact this
    have hok5 := I5.hok
    rw [hXp, hXw] at hok5
    have hos : s5.os = s3.os := by have := I5.os; rw [hXs] at this; exact this
    have IX : Inv X pins σ H5 s5 := I3.rh (s' := s5) (ch := fp) hos u5 hok5 I5.bare (fun b hb => by
      obtain ⟨g0, g1, g2, g3, g4, g5⟩ := f2 b hb
      exact ⟨g3, g1, g4, g5⟩)
    have cC : ∀ x c, X.env.cells.lookup x = some c -> c ≠ s3.heap.objs.size := fun x c z e => by
      obtain ⟨v, q⟩ := I3.cell x c z
      exact absurd q.lt (by rw [e]; exact Nat.lt_irrefl _)
    have pC : ∀ p ∈ X.pn ++ pins, p.1 ≠ s3.heap.objs.size := fun p hp e => by
      have := Heap.lt_size (I3.pin p hp).1
      rw [e] at this
      exact Nat.lt_irrefl _ this
    refine hfin acc s3.heap.objs.size H5 s5 oC (IX.kM fun p hp => ?_) cC I3.sz pC ⟨m, fun h' z => ⟨oC, esC, epC, z, hC2, hC3⟩⟩ q
    rcases List.mem_append.mp hp with z | z
    · exact IX.pin p (List.mem_append_right _ z)
    · have e := List.mem_singleton.mp z
      subst e
      refine ⟨hC1, fr, Nat.ne_of_gt I3.lt, I3.FL (Nat.le_refl _), fun v e => ?_⟩
      have e' : oC.data = .cell v := e
      rw [hC2] at e'; cases e'
  have loop : ∀ tk, codeAny (model X.prog X.w) X.A (.compLoop (.ListComp elt [⟨tg, iter, ifs, 0⟩] scope pos) 0 (.ref it) (.ref acc) (compEnvC scope cl s3.heap.objs.size X.env))
      (compPost (model X.prog X.w) X.A X.xe use Q2 (.ref acc) s3.heap.objs.size) { s3 with heap := h₁, toks := tk } := fun tk => by
    refine mU (fun n s' => ∃ i ys σ' H', Inv X' [] σ' H' s' /\ iR tn'.length ix σ σ' /\ tn i s'.heap /\ (∀ b ∈ fp, H' b = none) /\ W i n ys H') (fun n s5 h5 => ?_) m0
      ⟨0, [], qh tn'.length ix σ, H3, I4 tk, ⟨_, List.length_replicate, rfl⟩, T.keep _ _ _ st3' fun b _ o q => keep4 b o q, fpn, w0⟩
    obtain ⟨i, ys, σ5, H5, I5, hσ, st5, fr5, w5⟩ := h5
    rcases turn i n ys H5 w5 with ⟨stop, q⟩ | ⟨go, step⟩
    · have d := T.done X' hXp hXw hXK hXc i [] s5 σ5 H5 (fun _ _ => False) I5 (stat fr5) st5 stop
      rw [hXA] at d
      refine thn d fun r s6 ⟨hr, I6⟩ => ?_
      subst hr
      exact fin I6 q
    · have d := T.item X' hXp hXw hXK hXc i [] s5 σ5 H5 (fun _ _ => False) I5 (stat fr5) st5 go
      rw [hXA] at d
      refine thn d fun r s6 ⟨u, hr, h6⟩ => ?_
      subst hr
      refine thn h6 fun _ s7 ⟨z, H7, I7, r7, y7, st7, fr7⟩ => ?_
      have I7' := I7.pinned (stat fr7) (T.obj _ _ st7)
      have again : ∀ {H9 : Hp} {s9 : Shared} {ys9 : List V} {σ9 : St}, Inv X' ([] ++ ib fp s7.heap) σ9 H9 s9 -> iR tn'.length ix σ σ9 -> (∃ m', m' < n /\ W (i + 1) m' ys9 H9) -> ∃ m', m' < n /\ ∃ i ys σ' H', Inv X' [] σ' H' s9 /\ iR tn'.length ix σ σ' /\ tn i s9.heap /\ (∀ b ∈ fp, H' b = none) /\ W i m' ys H' := fun {H9 s9 ys9 σ9} I9 c9 ⟨m', hm, w9⟩ => by
        refine ⟨m', hm, i + 1, ys9, _, H9, I9.fJ, c9, T.keep _ _ _ st7 fun b hb o e => (I9.pin (b, o) (List.mem_append_right _ (List.mem_append_right _ (cJ hb e)))).1, fun b hb => ?_, w9⟩
        obtain ⟨o, e, _⟩ := T.obj _ _ st7 b hb
        exact (I9.pin (b, o) (List.mem_append_right _ (List.mem_append_right _ (cJ hb e)))).2.1
      have ht' := ht cl s3.heap.objs.size s3 H3 fp
      have he' := he cl s3.heap.objs.size s3 H3 fp
      have hg' := hg cl s3.heap.objs.size s3 H3 fp
      rw [hX'] at ht' he' hg'
      rw [<- hXe]
      have a0 := hg' _ s7 σ5 H7 z u _ I7' r7 (step σ5 z H7 hσ y7)
      rw [hXp, hXw, hXA, hXx] at a0
      refine thn a0 fun _ s8 ⟨σ8, H8, I8, c8, q8⟩ => ?_
      have a1 := ht' _ s8 _ H8 _ I8 q8
      rw [hXp, hXw, hXA, hXx] at a1
      refine thn a1 fun b s9 ⟨H9, I9, q9⟩ => ?_
      cases b with
      | false => exact again I9 c8 q9
      | true =>
        have a2 := he' _ s9 _ H9 _ I9 q9
        rw [hXp, hXw, hXA, hXx] at a2
        refine thn a2 fun yv s10 ⟨y, H10, I10, r10, q1, q2, q3⟩ => ?_
        have a3 := fG (X := X') _ s10 _ H10 (.ref acc) [y] (.ref acc) [yv] (fun _ Hq => ∃ m', m' < n /\ W (i + 1) m' (ys ++ [y]) Hq) I10 rfl (.cons r10 .nil) ⟨acc, ys, y, rfl, rfl, q1, q2, q3⟩
        rw [hXp, hXw, hXA, hXx] at a3
        exact thn a3 fun _ s11 ⟨_, H11, I11, _, q11⟩ => again I11 c8 q11
  refine codeAny_compStart_list (loop _) ?_
  exact T.self _ 0 _ _ _ (T.keep _ _ _ st3' fun b _ o q => keep4 b o q) (loop _)
section
variable {X : Cx} {elt iter tg : Expr} {tn' : List Str} {tgr : TG} {ifs : List Expr} {scope osc : Scope} {pos : Pos} {wi : TI} {tt : TT} {te : TE}
theorem ur (ix : List Nat) (tn' N' : List Str)
    (hxe : X.xe = fun _ _ => False) (hc : X.calm = true) (ho : X.env.scope = osc) (hN : N' = tn' ++ ix.map fun i => (X.N[i]?).getD ("" : Str)) (hnd : N'.Nodup)
    (hall : (∀ y ∈ scope.names, y.2 = .free -> osc.names.lookup y.1 = some .cell) /\ (∀ y ∈ scope.names, y.2 ≠ .cell) /\ scope.kind = .function /\ (∀ y ∈ scope.names, y.2 = .local -> scope.names.lookup y.1 = some .local) /\ (∀ y ∈ N'.drop tn'.length, scope.names.lookup y = some .free))
    (hi : PI X tg iter wi) (hg : ∀ cl C ay aB fp, PG (bf X scope cl C ay aB fp N') tg tgr)
    (ht : ∀ cl C ay aB fp, PTs (bf X scope cl C ay aB fp N') ifs tt)
    (he : ∀ cl C ay aB fp, PE (bf X scope cl C ay aB fp N') elt te)
    (hs : ∀ x, foldedSetIterable iter X.env x = pure x := by intro _; rfl) :
    PE X (.ListComp elt [⟨tg, iter, ifs, 0⟩] scope pos) (o7 wi tn'.length ix tgr tt te) := by
  intro pins s σ H Q I h
  have e : eval (.ListComp elt [⟨tg, iter, ifs, 0⟩] scope pos) X.env = comprehension (.ListComp elt [⟨tg, iter, ifs, 0⟩] scope pos) scope X.env (firstIterPos [⟨tg, iter, ifs, 0⟩] pos) (newList []) false (eval iter X.env) none := by
    rw [eval_ListComp]; rfl
  rw [e]
  refine qV (use := none) (Q2 := EP X pins σ Q) ix N' hxe hc ho hN hnd hall hi hg ht he hs I h fun acc C H5 s5 o I5 cC hC pC hm q => ?_
  obtain ⟨m, hm⟩ := hm
  exact ⟨m, hm _ (I5.pin (C, o) (List.mem_append_right _ (List.mem_append_right _ (List.mem_singleton.mpr rfl)))).1, fun h' hs' => ⟨.ref acc, H5, I5.D1 cC hC pC hs', rfl, q⟩⟩
theorem uy {y : Str} {py spos : Pos} {i : Nat} (ix : List Nat) (tn' N' : List Str)
    (hxe : X.xe = fun _ _ => False) (hc : X.calm = true) (ho : X.env.scope = osc) (hN : N' = tn' ++ ix.map fun i => (X.N[i]?).getD ("" : Str)) (hnd : N'.Nodup)
    (hall : (∀ y ∈ scope.names, y.2 = .free -> osc.names.lookup y.1 = some .cell) /\ (∀ y ∈ scope.names, y.2 ≠ .cell) /\ scope.kind = .function /\ (∀ y ∈ scope.names, y.2 = .local -> scope.names.lookup y.1 = some .local) /\ (∀ y ∈ N'.drop tn'.length, scope.names.lookup y = some .free))
    (hi : PI X tg iter wi) (hg : ∀ cl C ay aB fp, PG (bf X scope cl C ay aB fp N') tg tgr)
    (ht : ∀ cl C ay aB fp, PTs (bf X scope cl C ay aB fp N') ifs tt)
    (he : ∀ cl C ay aB fp, PE (bf X scope cl C ay aB fp N') elt te)
    (hNN : X.N.Nodup) (hy : X.N[i]? = some y) (hl : X.env.scope.names.lookup y = some .local)
    (hsw : swapsWith (.ListComp elt [⟨tg, iter, ifs, 0⟩] scope pos) (some (.Name y py)) spos.line X.env = pure true := by rfl)
    (hs : ∀ x, foldedSetIterable iter X.env x = pure x := by intro _; rfl) :
    PS X (.Assign [.Name y py] (.ListComp elt [⟨tg, iter, ifs, 0⟩] scope pos) spos) (Ed (o7 wi tn'.length ix tgr tt te) (eA i)) := by
  intro pins s σ H D I h
  rw [exec_Assign_Name_used _ _ _ _ hsw]
  refine wpAny_bind (wpAny_standAt ?_)
  show wpAny _ _ (evalThenUse (.ListComp elt [⟨tg, iter, ifs, 0⟩] scope pos) X.env (assign (.Name y py) X.env) >>= fun _ => pure Flow.next) _ _ _
  refine wpAny_bind ?_
  show wpAny _ _ (comprehension (.ListComp elt [⟨tg, iter, ifs, 0⟩] scope pos) scope X.env (firstIterPos [⟨tg, iter, ifs, 0⟩] pos) (newList []) false (eval iter X.env) (some (assign (.Name y py) X.env)) >>= fun _ => pure ()) _ _ _
  refine wpAny_bind (qV (use := some (assign (.Name y py) X.env)) ix N' hxe hc ho hN hnd hall hi hg ht he hs I h fun acc C H5 s5 o I5 cC hC pC hm q => ?_)
  obtain ⟨m, hm⟩ := hm
  refine wpAny_assign_Name (gY (i := i) (v := .ref acc) I5 hNN hy (.inl hl) rfl (fun s6 I6 => ?_) (.inr hl))
  refine ⟨m, hm _ (I6.pin (C, o) (List.mem_append_right _ (List.mem_append_right _ (List.mem_singleton.mpr rfl)))).1, fun h' hs' => ?_⟩
  exact wpAny_pure (wpAny_pure ⟨_, H5, I6.D1 cC hC pC hs', q⟩)
end
section
variable {κ : Type} [DecidableEq κ]
noncomputable def sd (kvs : List (κ × V)) (k : κ) : Option V := (kvs.find? fun kv => decide (kv.1 = k)).map (·.2)
theorem uP {p : κ × V} {r : List (κ × V)} {k : κ} (e : p.1 = k) : sd (p :: r) k = some p.2 := by simp [sd, List.find?_cons, e]
theorem ua {p : κ × V} {r : List (κ × V)} {k : κ} (e : ¬ p.1 = k) : sd (p :: r) k = sd r k := by simp [sd, List.find?_cons, e]
end
section
variable {X : Cx} {pins : List (Addr × Obj)} {σ : St} {H : Hp} {s : Shared} {a : Addr} {y v : V} {u r : Value} {o : Option V} {A : Around} {E : Value -> Shared -> Prop}
theorem BB {h' : Heap} {t' : Nat} {ob : HO} (I : Inv X pins σ H s) (mu : Mut (H a)) (hs : Heap.SameBut a s.heap h') (he : ∃ q, h'.get? a = some q) (new : cK X.prog X.w (upd H a ob) h' a ob) :
    Inv X pins σ (upd H a ob) { s with heap := h', toks := t' } :=
  I.write (x := a) (e := a) mu (.inl rfl) (fun b q hb z => (hs.2 b hb).trans z) he new
end
end L2
namespace L2.FE
open PySem PySem.Spec PyProof.Rows
inductive D where
  | non | bl (b : Bool) | int (i : Int) | str (x : Str) | tup (ds : List D) | frl (ds : List D) | ref (n : Nat) | fn (x : Str) | edic | scr (ds : List D) | exc (c : Str) (fs : List (Str × Int))
inductive O where
  | lst (ds : List D) | set (ns : List Int) | dic (kvs : List (Key × D)) | dit (kvs : List (List Key × D))
noncomputable abbrev Hh := List O
noncomputable abbrev En := List (Option D)
structure Xc where
  cls : Str
  fs : List (Str × Int)
inductive R (β : Type) where
  | ok (b : β) (h : Hh)
  | err (x : Xc) (h : Hh)
  | bad
noncomputable def R.bind {β γ : Type} (r : R β) (f : β -> Hh -> R γ) : R γ := match r with
  | .ok b h => f b h
  | .err x h => .err x h
  | .bad => .bad
inductive Fl where
  | nx (e : En) | bk (e : En) | ct (e : En) | rt (d : D)
noncomputable abbrev ME := En -> Hh -> R D
noncomputable abbrev MT := En -> Hh -> R Bool
noncomputable abbrev MA := En -> Hh -> R (List D)
noncomputable abbrev MS := En -> Hh -> R Fl
noncomputable def Fro (K : PySem.W.Frag) (H : Hp) (p : Addr) (vs : List V) : Prop :=
  (∃ o, H p = some (.frz o (.lst vs))) \/ ∃ (o : Obj) (its : Array Value) (n : Nat), K.lookup p = some o /\ o.cls = .type "list" /\ o.dict = none /\ o.data = .seq its n /\ its.size <= sizeLine /\ Vals vs its.toList
theorem Fro.sq {K : PySem.W.Frag} {H : Hp} {p : Addr} {vs : List V} (h : Fro K H p vs) : SqL K H p vs := by
  rcases h with ⟨o, h⟩ | h
  · exact .inl (.inr ⟨o, h⟩)
  · exact .inr h
noncomputable def Fr1 (H : Hp) (p : Addr) (vs : List V) : Prop := ∃ o, H p = some (.frz o (.lst vs))
theorem Fr1.fro {K : PySem.W.Frag} {H : Hp} {p : Addr} {vs : List V} (h : Fr1 H p vs) : Fro K H p vs := .inl h
theorem Fr1.sq {K : PySem.W.Frag} {H : Hp} {p : Addr} {vs : List V} (h : Fr1 H p vs) : SqL K H p vs := let ⟨o, h⟩ := h; .inl (.inr ⟨o, h⟩)
theorem Fr1.rd {H : Hp} {p : Addr} {vs : List V} (h : Fr1 H p vs) : Rd H p (.lst vs) := .inr h
noncomputable def AtO (p : Addr) (o : Obj) : HO := .frz o (.ext fun h => h.get? p = some o)
noncomputable def XFs (H : Hp) (dc : Option Addr) (fs : List (Str × Int)) : Prop := (dc = none /\ fs = []) \/ ∃ dx od, dc = some dx /\ H dx = some (.frz od (.xd (fs.map fun x => (x.1, V.int x.2))))
mutual
inductive aU (K : PySem.W.Frag) (g : Str -> Option Addr) (α : List Addr) (H : Hp) : D -> V -> Prop where
  | non : aU K g α H .non .non
  | bl (b) : aU K g α H (.bl b) (.bl b)
  | int (i) : aU K g α H (.int i) (.int i)
  | str (x) : aU K g α H (.str x) (.str x)
  | ref {n p} : α[n]? = some p -> aU K g α H (.ref n) (.ref p)
  | tup {ds p vs} : H p = some (.tup vs) -> az K g α H ds vs -> aU K g α H (.tup ds) (.ref p)
  | frl {ds p vs} : Fr1 H p vs -> az K g α H ds vs -> aU K g α H (.frl ds) (.ref p)
  | scr {ds p vs} : Fro K H p vs -> az K g α H ds vs -> aU K g α H (.scr ds) (.ref p)
  | fn {x f} : g x = some f -> aU K g α H (.fn x) (.ref f)
  | edic {p o} : H p = some (.frz o (.dK [])) -> aU K g α H .edic (.ref p)
  | exc {c C p o fs} : g c = some C -> H p = some (AtO p o) -> o.cls = .ref C -> (∃ vs, o.data = .fields vs) -> XFs H o.dict fs -> aU K g α H (.exc c fs) (.ref p)
inductive az (K : PySem.W.Frag) (g : Str -> Option Addr) (α : List Addr) (H : Hp) : List D -> List V -> Prop where
  | nil : az K g α H [] []
  | cons {d v ds vs} : aU K g α H d v -> az K g α H ds vs -> az K g α H (d :: ds) (v :: vs)
end
structure Ex0 (K : PySem.W.Frag) (α : List Addr) (H : Hp) (α' : List Addr) (H' : Hp) : Prop where
  pre : α <+: α'
  tup : ∀ (p : Addr) (xs : List V), H p = some (.tup xs) -> H' p = some (.tup xs)
  frz : ∀ (p : Addr) (o : Obj) (u : HO), H p = some (.frz o u) -> H' p = some (.frz o u)
theorem Ex0.fro {K : PySem.W.Frag} {α α' : List Addr} {H H' : Hp} (e : Ex0 K α H α' H') (p : Addr) (xs : List V) (h : Fro K H p xs) : Fro K H' p xs := by
  rcases h with ⟨o, h⟩ | h
  · exact .inl ⟨o, e.frz _ _ _ h⟩
  · exact .inr h
theorem Ex0.fr1 {K : PySem.W.Frag} {α α' : List Addr} {H H' : Hp} (e : Ex0 K α H α' H') (p : Addr) (xs : List V) (h : Fr1 H p xs) : Fr1 H' p xs := let ⟨o, h⟩ := h; ⟨o, e.frz _ _ _ h⟩
structure Ext (K : PySem.W.Frag) (α : List Addr) (H : Hp) (α' : List Addr) (H' : Hp) : Prop extends Ex0 K α H α' H' where
  keep : ∀ p o, H p = some o -> p ∉ α -> H' p = some o
  new : ∀ p, p ∈ α' -> p ∉ α -> H p = none
section
variable {K : PySem.W.Frag} {g : Str -> Option Addr} {α α' α'' : List Addr} {H H' H'' : Hp}
theorem Ex0.refl : Ex0 K α H α H := ⟨List.prefix_refl _, fun _ _ h => h, fun _ _ _ h => h⟩
theorem Ex0.trans (a : Ex0 K α H α' H') (b : Ex0 K α' H' α'' H'') : Ex0 K α H α'' H'' := ⟨a.pre.trans b.pre, fun p xs h => b.tup p xs (a.tup p xs h), fun p o u h => b.frz p o u (a.frz p o u h)⟩
theorem Ext.refl : Ext K α H α H := ⟨.refl, fun _ _ h _ => h, fun _ h n => absurd h n⟩
theorem Ext.trans (a : Ext K α H α' H') (b : Ext K α' H' α'' H'') : Ext K α H α'' H'' := ⟨a.toEx0.trans b.toEx0, fun p o h n => b.keep p o (a.keep p o h n) (fun z => by rw [a.new p z n] at h; cases h), fun p z n => by
    by_cases q : p ∈ α'
    · exact a.new p q n
    · have := b.new p z q
      cases e : H p with
      | none => rfl
      | some o => rw [a.keep p o e n] at this; cases this⟩
theorem Ex0.get (e : Ex0 K α H α' H') {n : Nat} {p : Addr} (h : α[n]? = some p) : α'[n]? = some p := by
  obtain ⟨t, rfl⟩ := e.pre
  have hl : n < α.length := by
    by_cases hl : n < α.length
    · exact hl
    · rw [List.getElem?_eq_none (by omega)] at h; cases h
  rw [List.getElem?_append_left hl]; exact h
mutual
theorem aU.ex0 (e : Ex0 K α H α' H') : ∀ {d : D} {v : V}, aU K g α H d v -> aU K g α' H' d v
  | _, _, .non => .non
  | _, _, .bl b => .bl b
  | _, _, .int i => .int i
  | _, _, .str x => .str x
  | _, _, .ref h => .ref (e.get h)
  | _, _, .tup h r => .tup (e.tup _ _ h) (az.ex0 e r)
  | _, _, .frl h r => .frl (e.fr1 _ _ h) (az.ex0 e r)
  | _, _, .scr h r => .scr (e.fro _ _ h) (az.ex0 e r)
  | _, _, .fn h => .fn h
  | _, _, .edic h => .edic (e.frz _ _ _ h)
  | _, _, .exc hg h hc hd hf => .exc hg (e.frz _ _ _ h) hc hd (hf.elim .inl fun ⟨dx, od, a, b⟩ => .inr ⟨dx, od, a, e.frz _ _ _ b⟩)
theorem az.ex0 (e : Ex0 K α H α' H') : ∀ {ds : List D} {vs : List V}, az K g α H ds vs -> az K g α' H' ds vs
  | _, _, .nil => .nil
  | _, _, .cons r t => .cons (aU.ex0 e r) (az.ex0 e t)
end
theorem aU.ext (e : Ext K α H α' H') {d : D} {v : V} (r : aU K g α H d v) : aU K g α' H' d v := r.ex0 e.toEx0
theorem az.ext (e : Ext K α H α' H') {d : List D} {v : List V} (r : az K g α H d v) : az K g α' H' d v := r.ex0 e.toEx0
theorem az.length : ∀ {ds : List D} {vs : List V}, az K g α H ds vs -> ds.length = vs.length
  | _, _, .nil => rfl
  | _, _, .cons _ t => by simp [az.length t]
theorem az.append : ∀ {ds es : List D} {vs us : List V}, az K g α H ds vs -> az K g α H es us -> az K g α H (ds ++ es) (vs ++ us)
  | _, _, _, _, .nil, s => s
  | _, _, _, _, .cons r t, s => .cons r (az.append t s)
theorem az.get : ∀ {ds : List D} {vs : List V} {i : Nat} {d : D}, az K g α H ds vs -> ds[i]? = some d -> ∃ v, vs[i]? = some v /\ aU K g α H d v
  | _, _, _, _, .nil, e => by simp at e
  | _, _, 0, _, .cons r _, e => by simp at e; subst e; exact ⟨_, rfl, r⟩
  | _, _, i + 1, d, .cons _ t, e => by
    obtain ⟨u, h1, h2⟩ := az.get (i := i) (d := d) t (by simpa using e)
    exact ⟨u, by simpa using h1, h2⟩
theorem az.set {d : D} {v : V} (r : aU K g α H d v) : ∀ {ds : List D} {vs : List V} (i : Nat), az K g α H ds vs -> az K g α H (ds.set i d) (vs.set i v)
  | _, _, _, .nil => .nil
  | _, _, 0, .cons _ t => .cons r t
  | _, _, i + 1, .cons q t => .cons q (az.set r i t)
theorem az.take : ∀ {ds : List D} {vs : List V} (n : Nat), az K g α H ds vs -> az K g α H (ds.take n) (vs.take n)
  | _, _, 0, _ => .nil
  | _, _, _ + 1, .nil => .nil
  | _, _, n + 1, .cons r t => .cons r (az.take n t)
theorem az.drop : ∀ {ds : List D} {vs : List V} (n : Nat), az K g α H ds vs -> az K g α H (ds.drop n) (vs.drop n)
  | _, _, 0, r => r
  | _, _, _ + 1, .nil => .nil
  | _, _, n + 1, .cons _ t => az.drop n t
theorem az.rev : ∀ {ds : List D} {vs : List V}, az K g α H ds vs -> az K g α H ds.reverse vs.reverse
  | _, _, .nil => .nil
  | _, _, .cons r t => by simp only [List.reverse_cons]; exact (az.rev t).append (.cons r .nil)
theorem az.erase : ∀ {ds : List D} {vs : List V} (i : Nat), az K g α H ds vs -> az K g α H (ds.eraseIdx i) (vs.eraseIdx i)
  | _, _, _, .nil => .nil
  | _, _, 0, .cons _ t => t
  | _, _, i + 1, .cons q t => .cons q (az.erase i t)
theorem az.ints (ns : List Int) : az K g α H (ns.map D.int) (ns.map V.int) := by
  induction ns with
  | nil => exact .nil
  | cons n r ih => exact .cons (.int n) ih
theorem az.qT : ∀ {ns : List Int} {vs : List V}, az K g α H (ns.map D.int) vs -> vs = ns.map V.int
  | [], _, .nil => rfl
  | n :: r, _, .cons (.int _) t => by rw [az.qT t]; rfl
theorem az.flat {ds : List D} {vs : List V} (r : az K g α H ds vs) : ∀ k, az K g α H (List.replicate k ds).flatten (List.replicate k vs).flatten
  | 0 => .nil
  | k + 1 => by rw [List.replicate_succ, List.replicate_succ, List.flatten_cons, List.flatten_cons]; exact r.append (az.flat r k)
end
noncomputable def OAt (K : PySem.W.Frag) (g : Str -> Option Addr) (α : List Addr) (H : Hp) (p : Addr) : O -> Prop
  | .lst ds => ∃ vs, H p = some (.lst vs) /\ az K g α H ds vs
  | .set ns => H p = some (.set (fun k => ns.any (· == k)) ns.length)
  | .dic kvs => ∃ kws, H p = some (.dK kws) /\ Paired (fun (a : Key × D) (b : Key × V) => a.1 = b.1 /\ aU K g α H a.2 b.2) kvs kws
  | .dit kvs => ∃ kws, H p = some (.dT kws) /\ Paired (fun (a : List Key × D) (b : List Key × V) => a.1 = b.1 /\ aU K g α H a.2 b.2) kvs kws
structure bh (K : PySem.W.Frag) (g : Str -> Option Addr) (α : List Addr) (H : Hp) (h : Hh) : Prop where
  len : α.length = h.length
  inj : ∀ (n m : Nat) (p : Addr), α[n]? = some p -> α[m]? = some p -> n = m
  here : ∀ (n : Nat) (p : Addr) (o : O), α[n]? = some p -> h[n]? = some o -> OAt K g α H p o
section
variable {K : PySem.W.Frag} {g : Str -> Option Addr} {α α' : List Addr} {H H' : Hp} {h : Hh}
theorem Paired.G3 {kvs : List (Key × D)} {kws : List (Key × V)} (e : Ex0 K α H α' H') (r : Paired (fun (a : Key × D) (b : Key × V) => a.1 = b.1 /\ aU K g α H a.2 b.2) kvs kws) :
    Paired (fun (a : Key × D) (b : Key × V) => a.1 = b.1 /\ aU K g α' H' a.2 b.2) kvs kws := L2.Paired.BG r fun _ _ q => ⟨q.1, q.2.ex0 e⟩
theorem Paired.Gx {kvs : List (List Key × D)} {kws : List (List Key × V)} (e : Ex0 K α H α' H') (r : Paired (fun (a : List Key × D) (b : List Key × V) => a.1 = b.1 /\ aU K g α H a.2 b.2) kvs kws) :
    Paired (fun (a : List Key × D) (b : List Key × V) => a.1 = b.1 /\ aU K g α' H' a.2 b.2) kvs kws := L2.Paired.BG r fun _ _ q => ⟨q.1, q.2.ex0 e⟩
theorem OAt.isS {p : Addr} {o : O} (h : OAt K g α H p o) : ∃ u, H p = some u /\ (∀ ys, u ≠ .tup ys) /\ ∀ w ys, u ≠ .frz w ys := by
  cases o with
  | lst ds => obtain ⟨vs, e, _⟩ := h; exact ⟨_, e, fun _ z => (nomatch z), fun _ _ z => nomatch z⟩
  | set n => exact ⟨_, h, fun _ z => (nomatch z), fun _ _ z => nomatch z⟩
  | dic kvs => obtain ⟨vs, e, _⟩ := h; exact ⟨_, e, fun _ z => (nomatch z), fun _ _ z => nomatch z⟩
  | dit kvs => obtain ⟨vs, e, _⟩ := h; exact ⟨_, e, fun _ z => (nomatch z), fun _ _ z => nomatch z⟩
theorem bh.mem (r : bh K g α H h) {p : Addr} (hp : p ∈ α) : ∃ u, H p = some u /\ (∀ ys, u ≠ .tup ys) /\ ∀ w ys, u ≠ .frz w ys := by
  obtain ⟨n, hn, e⟩ := List.getElem_of_mem hp
  have hn' : n < h.length := by rw [<- r.len]; exact hn
  exact (r.here n p _ (by rw [List.getElem?_eq_getElem hn, e]) (List.getElem?_eq_getElem hn')).isS
theorem OAt.ex0 {p : Addr} {o : O} (e : Ex0 K α H α' H') (h : OAt K g α H p o) (k : ∀ u, H p = some u -> H' p = some u) : OAt K g α' H' p o := by
  cases o with
  | lst ds => obtain ⟨vs, a, r⟩ := h; exact ⟨vs, k _ a, r.ex0 e⟩
  | set n => exact k _ h
  | dic kvs => obtain ⟨kws, a, r⟩ := h; exact ⟨kws, k _ a, Paired.G3 e r⟩
  | dit kvs => obtain ⟨kws, a, r⟩ := h; exact ⟨kws, k _ a, Paired.Gx e r⟩
noncomputable def Bh (H : Hp) (p : Addr) : Prop := H p = none \/ ∃ u, H p = some u /\ (∀ ys, u ≠ .tup ys) /\ ∀ w ys, u ≠ .frz w ys
theorem Ex0.upd {p : Addr} {o : HO} (n : Bh H p) : Ex0 K α H α (upd H p o) := by
  have ne : ∀ q u, H q = some u -> ((∃ ys, u = .tup ys) \/ ∃ w ys, u = .frz w ys) -> q ≠ p := by
    rintro q u e z rfl
    rcases n with n | ⟨u', e', n1, n2⟩
    · rw [e] at n; cases n
    · rw [e] at e'; cases e'
      rcases z with ⟨ys, z⟩ | ⟨w, ys, z⟩
      · exact n1 _ z
      · exact n2 _ _ z
  refine ⟨List.prefix_refl _, fun q xs h => ?_, fun q o u h => ?_⟩
  · rw [aW (ne q _ h (.inl ⟨_, rfl⟩))]; exact h
  · rw [aW (ne q _ h (.inr ⟨_, _, rfl⟩))]; exact h
theorem Ex0.more (e : Ex0 K α H α H') (l : List Addr) : Ex0 K α H (α ++ l) H' := ⟨List.prefix_append _ _, e.tup, e.frz⟩
theorem Ext.fresh {p : Addr} {o : HO} (n : H p = none) : Ext K α H α (upd H p o) := ⟨Ex0.upd (.inl n), fun q u h _ => by rw [aW (cE h n)]; exact h, fun _ z m => absurd z m⟩
theorem Ext.push {p : Addr} {o : HO} (n : H p = none) : Ext K α H (α ++ [p]) (upd H p o) := ⟨(Ex0.upd (.inl n)).more _, fun q u h _ => by rw [aW (cE h n)]; exact h, fun q z m => by
  rcases List.mem_append.mp z with z | z
  · exact absurd z m
  · rw [List.mem_singleton.mp z]; exact n⟩
theorem bh.off {p : Addr} {o : HO} (r : bh K g α H h) (n : Bh H p) (m : p ∉ α) : bh K g α (upd H p o) h := by
  refine ⟨r.len, r.inj, fun k q u a b => (r.here k q u a b).ex0 (Ex0.upd n) fun w e => ?_⟩
  rw [aW]; exact e
  rintro rfl; exact m (List.mem_of_getElem? a)
theorem bh.free (r : bh K g α H h) {p : Addr} (n : H p = none) : p ∉ α := fun z => by
  obtain ⟨u, e, _⟩ := r.mem z
  rw [n] at e; cases e
theorem bh.grow {p : Addr} {o : HO} (r : bh K g α H h) (n : H p = none) : bh K g α (upd H p o) h := r.off (.inl n) (r.free n)
theorem bh.adopt {p : Addr} {u : O} (r : bh K g α H h) (n : p ∉ α) (a : OAt K g (α ++ [p]) H p u) : bh K g (α ++ [p]) H (h ++ [u]) := by
  have old : ∀ {m : Nat} {q : Addr}, (α ++ [p])[m]? = some q -> (α[m]? = some q) \/ (m = α.length /\ q = p) := by
    intro m q h1
    by_cases hm : m < α.length
    · rw [List.getElem?_append_left hm] at h1
      exact .inl h1
    · have hl : m < (α ++ [p]).length := by
        by_cases hl : m < (α ++ [p]).length
        · exact hl
        · rw [List.getElem?_eq_none (by omega)] at h1; cases h1
      have e : m = α.length := by simp at hl; omega
      subst e
      rw [List.getElem?_append_right (Nat.le_refl _)] at h1
      simp at h1
      exact .inr ⟨rfl, h1.symm⟩
  refine ⟨by simp [r.len], fun m k q h1 h2 => ?_, fun m q w h1 h2 => ?_⟩
  · rcases old h1 with a1 | ⟨e1, e2⟩
    · rcases old h2 with a2 | ⟨e3, e4⟩
      · exact r.inj m k q a1 a2
      · rw [e4] at a1; exact absurd (List.mem_of_getElem? a1) n
    · rcases old h2 with a2 | ⟨e3, e4⟩
      · rw [e2] at a2; exact absurd (List.mem_of_getElem? a2) n
      · rw [e1, e3]
  · rcases old h1 with a1 | ⟨e1, e2⟩
    · have hm : m < α.length := by
        by_cases hl : m < α.length
        · exact hl
        · rw [List.getElem?_eq_none (by omega)] at a1; cases a1
      rw [List.getElem?_append_left (by rw [<- r.len]; exact hm)] at h2
      exact (r.here m q w a1 h2).ex0 (Ex0.refl.more _) fun _ z => z
    · subst e1 e2
      rw [r.len, List.getElem?_append_right (Nat.le_refl _)] at h2
      simp at h2
      subst h2
      exact a
theorem bh.push {p : Addr} {o : HO} {u : O} (r : bh K g α H h) (n : H p = none) (a : OAt K g (α ++ [p]) (upd H p o) p u) : bh K g (α ++ [p]) (upd H p o) (h ++ [u]) := (r.grow n).adopt (r.free n) a
theorem Ext.write {p : Addr} {o : HO} {k : Nat} (r : bh K g α H h) (hk : α[k]? = some p) : Ext K α H α (upd H p o) :=
  ⟨Ex0.upd (.inr (r.mem (List.mem_of_getElem? hk))), fun q u h m => by
    rw [aW]; exact h
    rintro rfl; exact m (List.mem_of_getElem? hk), fun _ z m => absurd z m⟩
theorem bh.write {p : Addr} {o : HO} {u' : O} {k : Nat} (r : bh K g α H h) (hk : α[k]? = some p) (a : OAt K g α (upd H p o) p u') : bh K g α (upd H p o) (h.set k u') := by
  have x : Ext K α H α (upd H p o) := Ext.write r hk
  refine ⟨by simp [r.len], r.inj, fun m q w h1 h2 => ?_⟩
  rw [List.getElem?_set] at h2
  by_cases hm : k = m
  · subst hm
    rw [if_pos rfl] at h2
    split at h2
    · cases h2; rw [h1] at hk; cases hk; exact a
    · cases h2
  · rw [if_neg hm] at h2
    refine (r.here m q w h1 h2).ex0 x.toEx0 fun z e => ?_
    rw [aW]; exact e
    rintro rfl; exact hm (r.inj _ _ _ hk h1)
end
noncomputable abbrev GG := Str -> Option Addr
noncomputable abbrev EE := List Addr -> Hp -> Xc -> Prop
structure jd (K : PySem.W.Frag) (g : GG) (α : List Addr) (H : Hp) (env : En) (σ : St) : Prop where
  len : env.length = σ.length
  vars : ∀ (i : Nat) (d : D), env[i]? = some (some d) -> ∃ v, σ[i]? = some (some v) /\ aU K g α H d v
structure dJ (K : PySem.W.Frag) (g : GG) (α : List Addr) (H : Hp) (env : En) (σ : St) (h : Hh) : Prop where
  heap : bh K g α H h
  vs : jd K g α H env σ
noncomputable def WQ (K : PySem.W.Frag) (g : GG) (ε : EE) (α : List Addr) (H : Hp) {β : Type} (r : R β) (k : β -> Hh -> Prop) : Prop := match r with
  | .ok b h => k b h
  | .err x h => ∀ α' H', Ext K α H α' H' -> bh K g α' H' h -> ε α' H' x
  | .bad => False
section
variable {K : PySem.W.Frag} {g : GG} {ε : EE} {α α' : List Addr} {H H' : Hp} {β γ : Type}
theorem WQ.bind {r : R β} {f : β -> Hh -> R γ} {k : γ -> Hh -> Prop} (w : WQ K g ε α H (r.bind f) k) : WQ K g ε α H r fun b h => WQ K g ε α H (f b h) k := by
  cases r <;> exact w
theorem WQ.ext {r : R β} {k : β -> Hh -> Prop} (e : Ext K α H α' H') (w : WQ K g ε α H r k) : WQ K g ε α' H' r k := by
  cases r with
  | ok b h => exact w
  | err x h => exact fun a b c d => w a b (e.trans c) d
  | bad => exact w
theorem WQ.mono {r : R β} {k k' : β -> Hh -> Prop} (w : WQ K g ε α H r k) (m : ∀ b h, r = .ok b h -> k b h -> k' b h) : WQ K g ε α H r k' := by
  cases r with
  | ok b h => exact m b h rfl w
  | err x h => exact w
  | bad => exact w
theorem jd.ext {env : En} {σ : St} (v : jd K g α H env σ) (e : Ext K α H α' H') : jd K g α' H' env σ :=
  ⟨v.len, fun i d h => let ⟨x, a, b⟩ := v.vars i d h; ⟨x, a, b.ext e⟩⟩
theorem dJ.ext {env : En} {σ : St} {h h' : Hh} (v : dJ K g α H env σ h) (e : Ext K α H α' H') (r : bh K g α' H' h') : dJ K g α' H' env σ h' := ⟨r, v.vs.ext e⟩
theorem jd.set {env : En} {σ : St} {i : Nat} {d : D} {x : V} (v : jd K g α H env σ) (r : aU K g α H d x) : jd K g α H (env.set i (some d)) (σ.set i (some x)) := by
  refine ⟨by simp [v.len], fun j e h => ?_⟩
  rw [List.getElem?_set] at h ⊢
  by_cases hj : i = j
  · subst hj
    rw [if_pos rfl] at h ⊢
    have hl := v.len
    split at h
    · rw [if_pos (by omega)]
      cases h
      exact ⟨x, rfl, r⟩
    · cases h
  · rw [if_neg hj] at h ⊢
    exact v.vars j e h
end
noncomputable def aX (K : PySem.W.Frag) (g : GG) (α : List Addr) (H : Hp) (Q : VK) : D -> Hh -> Prop := fun d h => ∀ v H' α', Ext K α H α' H' -> bh K g α' H' h -> aU K g α' H' d v -> Q v H'
noncomputable def mH (K : PySem.W.Frag) (g : GG) (α : List Addr) (H : Hp) (Q : Bool -> Hp -> Prop) : Bool -> Hh -> Prop := fun b h => ∀ H' α', Ext K α H α' H' -> bh K g α' H' h -> Q b H'
noncomputable def Gh (K : PySem.W.Frag) (g : GG) (α : List Addr) (H : Hp) (Q : List V -> Hp -> Prop) : List D -> Hh -> Prop := fun ds h => ∀ vs H' α', Ext K α H α' H' -> bh K g α' H' h -> az K g α' H' ds vs -> Q vs H'
noncomputable def cY (K : PySem.W.Frag) (g : GG) (α : List Addr) (H : Hp) (E : Ends) : Fl -> Hh -> Prop := fun fl h => ∀ H' α', Ext K α H α' H' -> bh K g α' H' h -> match fl with
  | .nx e => ∀ σ, jd K g α' H' e σ -> E.nx σ H'
  | .bk e => ∀ σ, jd K g α' H' e σ -> E.bk σ H'
  | .ct e => ∀ σ, jd K g α' H' e σ -> E.ct σ H'
  | .rt d => ∀ v, aU K g α' H' d v -> E.rt v H'
noncomputable def tM (K : PySem.W.Frag) (g : GG) (ε : EE) (m : ME) : TE := fun σ H Q => ∃ α env h, dJ K g α H env σ h /\ WQ K g ε α H (m env h) (aX K g α H Q)
noncomputable def tMT (K : PySem.W.Frag) (g : GG) (ε : EE) (m : MT) : TT := fun σ H Q => ∃ α env h, dJ K g α H env σ h /\ WQ K g ε α H (m env h) (mH K g α H Q)
noncomputable def tMA (K : PySem.W.Frag) (g : GG) (ε : EE) (m : MA) : TA := fun σ H Q => ∃ α env h, dJ K g α H env σ h /\ WQ K g ε α H (m env h) (Gh K g α H Q)
noncomputable def tMS (K : PySem.W.Frag) (g : GG) (ε : EE) (m : MS) : TS := fun E σ H => ∃ α env h, dJ K g α H env σ h /\ WQ K g ε α H (m env h) (cY K g α H E)
section
variable {K : PySem.W.Frag} {g : GG} {ε : EE} {α α' : List Addr} {H H' : Hp} {env : En} {σ : St} {h : Hh}
theorem aX.ext {Q : VK} {d : D} (e : Ext K α H α' H') (p : aX K g α H Q d h) : aX K g α' H' Q d h := fun v H2 α2 e2 r rd => p v H2 α2 (e.trans e2) r rd
theorem mH.ext {Q : Bool -> Hp -> Prop} {d : Bool} (e : Ext K α H α' H') (p : mH K g α H Q d h) : mH K g α' H' Q d h := fun H2 α2 e2 r => p H2 α2 (e.trans e2) r
theorem cY.ext {E : Ends} {d : Fl} (e : Ext K α H α' H') (p : cY K g α H E d h) : cY K g α' H' E d h := fun H2 α2 e2 r => p H2 α2 (e.trans e2) r
theorem WQ.post {Q : VK} {r : R D} (e : Ext K α H α' H') (w : WQ K g ε α H r (aX K g α H Q)) : WQ K g ε α' H' r (aX K g α' H' Q) := (w.ext e).mono fun _ _ _ p => p.ext e
theorem WQ.GU {Q : Bool -> Hp -> Prop} {r : R Bool} (e : Ext K α H α' H') (w : WQ K g ε α H r (mH K g α H Q)) : WQ K g ε α' H' r (mH K g α' H' Q) := (w.ext e).mono fun _ _ _ p => p.ext e
theorem WQ.xn {E : Ends} {r : R Fl} (e : Ext K α H α' H') (w : WQ K g ε α H r (cY K g α H E)) : WQ K g ε α' H' r (cY K g α' H' E) := (w.ext e).mono fun _ _ _ p => p.ext e
theorem tM.use {m : ME} {Q : VK} {k : D -> Hh -> Prop} (s : dJ K g α H env σ h) (w : WQ K g ε α H (m env h) k)
    (q : ∀ d h' v H' α', Ext K α H α' H' -> dJ K g α' H' env σ h' -> aU K g α' H' d v -> k d h' -> Q v H') : tM K g ε m σ H Q :=
  ⟨α, env, h, s, w.mono fun d h' _ kk v H' α' e r rd => q d h' v H' α' e (s.ext e r) rd kk⟩
theorem tMT.use {m : MT} {Q : Bool -> Hp -> Prop} {k : Bool -> Hh -> Prop} (s : dJ K g α H env σ h) (w : WQ K g ε α H (m env h) k)
    (q : ∀ d h' H' α', Ext K α H α' H' -> dJ K g α' H' env σ h' -> k d h' -> Q d H') : tMT K g ε m σ H Q :=
  ⟨α, env, h, s, w.mono fun d h' _ kk H' α' e r => q d h' H' α' e (s.ext e r) kk⟩
theorem tMA.use {m : MA} {Q : List V -> Hp -> Prop} {k : List D -> Hh -> Prop} (s : dJ K g α H env σ h) (w : WQ K g ε α H (m env h) k)
    (q : ∀ d h' v H' α', Ext K α H α' H' -> dJ K g α' H' env σ h' -> az K g α' H' d v -> k d h' -> Q v H') : tMA K g ε m σ H Q :=
  ⟨α, env, h, s, w.mono fun d h' _ kk v H' α' e r rd => q d h' v H' α' e (s.ext e r) rd kk⟩
theorem aX.now {Q : VK} {d : D} {v : V} (p : aX K g α H Q d h) (r : bh K g α H h) (rd : aU K g α H d v) : Q v H := p v H α Ext.refl r rd
end
theorem PE.imp {X : Cx} {e : Expr} {t t' : TE} (h : PE X e t) (i : ∀ σ H Q, t' σ H Q -> t σ H Q) : PE X e t' := fun pins s σ H Q I w => h pins s σ H Q I (i σ H Q w)
theorem PT.imp {X : Cx} {e : Expr} {t t' : TT} (h : PT X e t) (i : ∀ σ H Q, t' σ H Q -> t σ H Q) : PT X e t' := fun pins s σ H Q I w => h pins s σ H Q I (i σ H Q w)
theorem PW.imp {X : Cx} {e : Expr} {t t' : TT} (h : PW X e t) (i : ∀ σ H Q, t' σ H Q -> t σ H Q) : PW X e t' := fun wh pins s σ H Q I w => h wh pins s σ H Q I (i σ H Q w)
theorem PA.imp {X : Cx} {e : List Expr} {t t' : TA} (h : PA X e t) (i : ∀ σ H Q, t' σ H Q -> t σ H Q) : PA X e t' := fun p pins s σ H Q I w => h p pins s σ H Q I (i σ H Q w)
theorem PS.imp {X : Cx} {e : Stmt} {t t' : TS} (h : PS X e t) (i : ∀ σ H Q, t' σ H Q -> t σ H Q) : PS X e t' := fun pins s σ H Q I w => h pins s σ H Q I (i Q σ H w)
theorem PSs.imp {X : Cx} {e : List Stmt} {t t' : TS} (h : PSs X e t) (i : ∀ σ H Q, t' σ H Q -> t σ H Q) : PSs X e t' := fun pins s σ H Q I w => h pins s σ H Q I (i Q σ H w)
noncomputable def ag (i : Nat) : ME := fun env h => match env[i]? with
  | some (some d) => .ok d h
  | _ => .bad
noncomputable def cC (d : D) : ME := fun _ h => .ok d h
noncomputable def ao (f : D -> D -> Hh -> R D) (a b : ME) : ME := fun env h => (a env h).bind fun x h1 => (b env h1).bind fun y h2 => f x y h2
noncomputable def cUn (f : D -> Hh -> R D) (a : ME) : ME := fun env h => (a env h).bind fun x h1 => f x h1
noncomputable def ak : MA := fun _ h => .ok [] h
noncomputable def aa (a : ME) (r : MA) : MA := fun env h => (a env h).bind fun x h1 => (r env h1).bind fun xs h2 => .ok (x :: xs) h2
noncomputable def ah (f : List D -> Hh -> R D) (a : MA) : ME := fun env h => (a env h).bind fun xs h1 => f xs h1
noncomputable def aI (f : D -> Hh -> R Bool) (a : ME) : MT := fun env h => (a env h).bind fun x h1 => f x h1
noncomputable def jF (a : MT) : MT := fun env h => (a env h).bind fun b h1 => .ok (!b) h1
noncomputable def nY (a b : MT) : MT := fun env h => (a env h).bind fun x h1 => if x = true then b env h1 else .ok false h1
noncomputable def lJ (a b : MT) : MT := fun env h => (a env h).bind fun x h1 => if x = true then .ok true h1 else b env h1
noncomputable def cIf (c : MT) (a b : ME) : ME := fun env h => (c env h).bind fun x h1 => if x = true then a env h1 else b env h1
noncomputable def asB : D -> Hh -> R Bool
  | .bl b, h => .ok b h
  | _, _ => .bad
noncomputable def xa (a b : ME) : ME := fun env h => (a env h).bind fun x h1 => (asB x h1).bind fun k h2 => if k = true then b env h2 else .ok (.bl false) h2
noncomputable def A7 (a : ME) : ME := fun env h => (a env h).bind fun x h1 => (asB x h1).bind fun k h2 => .ok (.bl (!k)) h2
noncomputable def kE (f f' : D -> D -> Hh -> R D) (a b c : ME) : ME := fun env h => (a env h).bind fun x h1 => (b env h1).bind fun y h2 => (f x y h2).bind fun z h3 => (asB z h3).bind fun k h4 =>
  if k = true then (c env h4).bind fun w h5 => f' y w h5 else .ok (.bl false) h4
noncomputable def eE (K : PySem.W.Frag) (g : GG) (ε : EE) (f : D -> D -> Hh -> R D) (r : R2) : Prop :=
  ∀ (α : List Addr) (H : Hp) (h : Hh) (a b : D) (x y : V) (Q : VK), bh K g α H h -> aU K g α H a x -> aU K g α H b y -> WQ K g ε α H (f a b h) (aX K g α H Q) -> r x y H Q
noncomputable def F2 (K : PySem.W.Frag) (g : GG) (ε : EE) (f : D -> Hh -> R D) (r : V -> Hp -> VK -> Prop) : Prop :=
  ∀ (α : List Addr) (H : Hp) (h : Hh) (a : D) (x : V) (Q : VK), bh K g α H h -> aU K g α H a x -> WQ K g ε α H (f a h) (aX K g α H Q) -> r x H Q
noncomputable def FY (K : PySem.W.Frag) (g : GG) (ε : EE) (f : D -> Hh -> R Bool) (r : V -> Hp -> (Bool -> Hp -> Prop) -> Prop) : Prop :=
  ∀ (α : List Addr) (H : Hp) (h : Hh) (a : D) (x : V) (Q : Bool -> Hp -> Prop), bh K g α H h -> aU K g α H a x -> WQ K g ε α H (f a h) (mH K g α H Q) -> r x H Q
noncomputable def lQ (K : PySem.W.Frag) (g : GG) (ε : EE) (f : List D -> Hh -> R D) (r : List V -> Hp -> VK -> Prop) : Prop :=
  ∀ (α : List Addr) (H : Hp) (h : Hh) (a : List D) (x : List V) (Q : VK), bh K g α H h -> az K g α H a x -> WQ K g ε α H (f a h) (aX K g α H Q) -> r x H Q
noncomputable def As (K : PySem.W.Frag) (g : GG) (ε : EE) (f : D -> List D -> Hh -> R D) (r : V -> List V -> Hp -> VK -> Prop) : Prop :=
  ∀ (α : List Addr) (H : Hp) (h : Hh) (o : D) (a : List D) (y : V) (x : List V) (Q : VK), bh K g α H h -> aU K g α H o y -> az K g α H a x -> WQ K g ε α H (f o a h) (aX K g α H Q) -> r y x H Q
section
variable {X : Cx} {g : GG} {ε : EE} {a b c : Expr} {ma mb mc : ME} {pos : Pos}
theorem ae (i : Nat) {x : Str} {pos : Pos} (hN : X.N[i]? = some x := by rfl) (hv : Vis X.env.scope x := by first | exact Or.inl rfl | exact Or.inr (Or.inl rfl) | exact Or.inr (Or.inr rfl)) (hd : (x == ("__debug__" : Str)) = false := by decide)
    (hcd : (x == ("__classdict__" : Str)) = false := by decide) : PE X (.Name x pos) (tM X.K g ε (ag i)) := by
  refine PE.imp (Ei hN hv hd hcd) fun σ H Q ⟨α, env, h, s, w⟩ => ?_
  unfold ag at w
  cases e : env[i]? with
  | none => rw [e] at w; exact w.elim
  | some d =>
    cases d with
    | none => rw [e] at w; exact w.elim
    | some d =>
      rw [e] at w
      obtain ⟨v, hv, rd⟩ := s.vs.vars i d e
      exact ⟨v, hv, aX.now w s.heap rd⟩
theorem Bj {v : V} {d : D} {Q : VK} {σ : St} {H : Hp} (rd : ∀ α, aU X.K g α H d v) (t : tM X.K g ε (cC d) σ H Q) : tC v σ H Q := by
  obtain ⟨α, env, h, s, w⟩ := t
  exact aX.now w s.heap (rd α)
theorem aq {i j pos} : PE X (.Constant (.int i) j pos) (tM X.K g ε (cC (.int i))) := PE.imp Ar fun _ _ _ t => Bj (fun _ => .int i) t
theorem gR {i j pos} : PE X (.Constant (.bool i) j pos) (tM X.K g ε (cC (.bl i))) := PE.imp GN fun _ _ _ t => Bj (fun _ => .bl i) t
theorem c_ {x : Str} {i : Int} {t : Tok} {pos : Pos} (hg : Gl X x) (hm : X.mg x = some (.int i t)) (hd : (x == ("__debug__" : Str)) = false := by decide) : PE X (.Name x pos) (tM X.K g ε (cC (.int i))) :=
  PE.imp (Cp (v := .int i) hg hm ⟨t, rfl⟩ hd) fun _ _ _ t => Bj (fun _ => .int i) t
theorem r8 {f : D -> D -> Hh -> R D} {r : R2} {K : PySem.W.Frag} (im : eE K g ε f r) {σ : St} {H : Hp} {Q : VK} (t : tM K g ε (ao f ma mb) σ H Q) : tOp r (tM K g ε ma) (tM K g ε mb) σ H Q := by
  obtain ⟨α, env, h, s, w⟩ := t
  refine tM.use s w.bind fun d1 h1 v1 H1 α1 e1 s1 r1 w1 => ?_
  refine tM.use s1 (w1.ext e1).bind fun d2 h2 v2 H2 α2 e2 s2 r2 w2 => ?_
  exact im α2 H2 h2 d1 d2 v1 v2 Q s2.heap (r1.ext e2) r2 ((w2.ext e2).mono fun _ _ _ p => p.ext (e1.trans e2))
theorem aE {op : Operator} {r : R2} {f : D -> D -> Hh -> R D} (ho : OpR X (binaryOp op) r) (im : eE X.K g ε f r) (ha : PE X a (tM X.K g ε ma)) (hb : PE X b (tM X.K g ε mb)) : PE X (.BinOp a op b pos) (tM X.K g ε (ao f ma mb)) :=
  PE.imp (G4 ho ha hb) fun _ _ _ t => r8 im t
theorem vH {op : CmpOp} {r : R2} {f : D -> D -> Hh -> R D} (ho : OpR X (compareOp op) r) (im : eE X.K g ε f r) (ha : PE X a (tM X.K g ε ma)) (hb : PE X b (tM X.K g ε mb)) (hm : behindInMarks op b = false) : PE X (.Compare a [op] [b] pos) (tM X.K g ε (ao f ma mb)) :=
  PE.imp (DA ho ha hb hm) fun _ _ _ t => r8 im t
theorem uR {K : PySem.W.Frag} {m : ME} {t : TE} (ht : ∀ σ H Q, tM K g ε m σ H Q -> t σ H Q) {σ : St} {H : Hp} {Q : Bool -> Hp -> Prop} (w : tMT K g ε (aI asB m) σ H Q) : AI t σ H Q := by
  obtain ⟨α, env, h, s, w⟩ := w
  refine ht _ _ _ (tM.use s w.bind fun d1 h1 v1 H1 α1 e1 s1 r1 w1 => ?_)
  unfold asB at w1
  cases r1 with
  | bl k => exact ⟨k, rfl, w1 H1 α1 e1 s1.heap⟩
  | _ => exact w1.elim
theorem bA {op : CmpOp} {r : R2} {f : D -> D -> Hh -> R D} (ho : OpR X (compareOp op) r) (im : eE X.K g ε f r) (ha : PE X a (tM X.K g ε ma)) (hb : PE X b (tM X.K g ε mb)) (hm : behindInMarks op b = false) : PT X (.Compare a [op] [b] pos) (tMT X.K g ε (aI asB (ao f ma mb))) :=
  PT.imp (Cf ho ha hb hm) fun _ _ _ t => uR (fun _ _ _ u => r8 im u) t
theorem qN {f f' : D -> D -> Hh -> R D} {r r' : R2} {K : PySem.W.Frag} (im : eE K g ε f r) (im' : eE K g ε f' r') {σ : St} {H : Hp} {Q : VK} (t : tM K g ε (kE f f' ma mb mc) σ H Q) : vq r r' (tM K g ε ma) (tM K g ε mb) (tM K g ε mc) σ H Q := by
  obtain ⟨α, env, h, s, w⟩ := t
  refine tM.use s w.bind fun d1 h1 v1 H1 α1 e1 s1 r1 w1 => ?_
  refine tM.use s1 (w1.ext e1).bind fun d2 h2 v2 H2 α2 e2 s2 r2 w2 => ?_
  refine im α2 H2 h2 d1 d2 v1 v2 _ s2.heap (r1.ext e2) r2 ((w2.ext e2).bind.mono fun z h3 _ w3 v3 H3 α3 e3 hr3 r3 => ?_)
  have w4 := w3.bind
  unfold asB at w4
  cases r3 with
  | bl k =>
    refine ⟨k, rfl, ?_⟩
    have s3 := s2.ext e3 hr3
    cases k with
    | true =>
      have w5 : WQ K g ε α2 H2 ((mc env h3).bind fun w h5 => f' d2 w h5) _ := w4
      rw [if_pos rfl]
      refine tM.use s3 (w5.ext e3).bind fun d4 h4 v4 H4 α4 e4 s4 r4 w6 => ?_
      exact im' α4 H4 h4 d2 d4 v2 v4 Q s4.heap (r2.ext (e3.trans e4)) r4 ((w6.ext e4).mono fun _ _ _ p => p.ext (e1.trans (e2.trans (e3.trans e4))))
    | false =>
      rw [if_neg Bool.false_ne_true]
      have w5 : aX K g α H Q (.bl false) h3 := w4
      exact w5 _ H3 α3 (e1.trans (e2.trans e3)) s3.heap (.bl false)
  | _ => exact w4.elim
theorem zo {op op' : CmpOp} {r r' : R2} {f f' : D -> D -> Hh -> R D} (ho : OpR X (compareOp op) r) (ho' : OpR X (compareOp op') r') (im : eE X.K g ε f r) (im' : eE X.K g ε f' r') (ha : PE X a (tM X.K g ε ma)) (hb : PE X b (tM X.K g ε mb)) (hc : PE X c (tM X.K g ε mc))
    (hm : lastMarks [op, op'] [b, c] = false := by with_unfolding_all rfl) : PE X (.Compare a [op, op'] [b, c] pos) (tM X.K g ε (kE f f' ma mb mc)) := PE.imp (Au ho ho' ha hb hc hm) fun _ _ _ t => qN im im' t
theorem uZ {op op' : CmpOp} {r r' : R2} {f f' : D -> D -> Hh -> R D} (ho : OpR X (compareOp op) r) (ho' : OpR X (compareOp op') r') (im : eE X.K g ε f r) (im' : eE X.K g ε f' r') (ha : PE X a (tM X.K g ε ma)) (hb : PE X b (tM X.K g ε mb)) (hc : PE X c (tM X.K g ε mc))
    (hm : lastMarks [op, op'] [b, c] = false := by with_unfolding_all rfl) : PT X (.Compare a [op, op'] [b, c] pos) (tMT X.K g ε (aI asB (kE f f' ma mb mc))) := PT.imp (za ho ho' ha hb hc hm) fun _ _ _ t => uR (fun _ _ _ u => qN im im' u) t
theorem ou {op : UnaryOp} {r : V -> Hp -> VK -> Prop} {f : D -> Hh -> R D} (ho : UnR X (unaryOp op) r) (im : F2 X.K g ε f r) (ha : PE X a (tM X.K g ε ma)) : PE X (.UnaryOp op a pos) (tM X.K g ε (cUn f ma)) :=
  PE.imp (DG ho ha) fun σ H Q ⟨α, env, h, s, w⟩ => tM.use s w.bind fun d1 h1 v1 H1 α1 e1 s1 r1 w1 => im α1 H1 h1 d1 v1 Q s1.heap r1 (w1.post e1)
theorem bS {r : R2} {f : D -> D -> Hh -> R D} (hr : IxR X r) (im : eE X.K g ε f r) (ha : PE X a (tM X.K g ε ma)) (hb : PE X b (tM X.K g ε mb)) (hs : xu b) : PE X (.Subscript a b pos) (tM X.K g ε (ao f ma mb)) :=
  PE.imp (Ga hr ha hb hs) fun _ _ _ t => r8 im t
theorem fR {f : D -> Hh -> R Bool} (im : FY X.K g ε f (fun x H Q => ∃ k, Dx X.K x H k /\ Q k H)) (ha : PE X a (tM X.K g ε ma)) (he : ∀ whole, isTrue a X.env whole = (do let v ← whole; standAt a.pos; holding [v] (truthy v))) : PT X a (tMT X.K g ε (aI f ma)) :=
  PT.imp (Bg ha he) fun σ H Q ⟨α, env, h, s, w⟩ => tM.use s w.bind fun d1 h1 v1 H1 α1 e1 s1 r1 w1 => im α1 H1 h1 d1 v1 Q s1.heap r1 (w1.GU e1)
theorem jl {mt : MT} (ha : PT X a (tMT X.K g ε mt)) : PT X (.UnaryOp .Not a pos) (tMT X.K g ε (jF mt)) :=
  PT.imp (EV ha) fun σ H Q ⟨α, env, h, s, w⟩ => tMT.use s w.bind fun d1 h1 H1 α1 e1 s1 w1 => w1 H1 α1 e1 s1.heap
end
section
variable {X : Cx} {g : GG} {ε : EE} {a b c e : Expr} {es : List Expr} {rest : List Expr} {ma mb mc me : ME} {mt mu : MT} {pos : Pos}
theorem sF (ha : PT X a (tMT X.K g ε mt)) : PW X (.BoolOp .And [a] pos) (tMT X.K g ε mt) := pw_and1 ha
theorem sg (ha : PT X a (tMT X.K g ε mt)) : PW X (.BoolOp .Or [a] pos) (tMT X.K g ε mt) := pw_or1 ha
theorem vv (ha : PT X a (tMT X.K g ε mt)) (hb : PW X (.BoolOp .And (b :: rest) pos) (tMT X.K g ε mu)) : PW X (.BoolOp .And (a :: b :: rest) pos) (tMT X.K g ε (nY mt mu)) :=
  PW.imp (pw_and ha hb) fun σ H Q ⟨α, env, h, s, w⟩ => tMT.use s w.bind fun d1 h1 H1 α1 e1 s1 w1 => by
    cases d1 with
    | true => rw [if_pos rfl] at w1 ⊢; exact tMT.use s1 (w1.ext e1) fun d2 h2 H2 α2 e2 s2 w2 => w2 H2 α2 (e1.trans e2) s2.heap
    | false => rw [if_neg Bool.false_ne_true] at w1 ⊢; exact w1 H1 α1 e1 s1.heap
theorem vg (ha : PT X a (tMT X.K g ε mt)) (hb : PW X (.BoolOp .Or (b :: rest) pos) (tMT X.K g ε mu)) : PW X (.BoolOp .Or (a :: b :: rest) pos) (tMT X.K g ε (lJ mt mu)) :=
  PW.imp (pw_or ha hb) fun σ H Q ⟨α, env, h, s, w⟩ => tMT.use s w.bind fun d1 h1 H1 α1 e1 s1 w1 => by
    cases d1 with
    | true => rw [if_pos rfl] at w1 ⊢; exact w1 H1 α1 e1 s1.heap
    | false => rw [if_neg Bool.false_ne_true] at w1 ⊢; exact tMT.use s1 (w1.ext e1) fun d2 h2 H2 α2 e2 s2 w2 => w2 H2 α2 (e1.trans e2) s2.heap
theorem f9 (hc : PT X c (tMT X.K g ε mt)) (ha : PE X a (tM X.K g ε ma)) (hb : PE X b (tM X.K g ε mb)) : PE X (.IfExp c a b pos) (tM X.K g ε (cIf mt ma mb)) :=
  PE.imp (zP hc ha hb) fun σ H Q ⟨α, env, h, s, w⟩ => tMT.use s w.bind fun d1 h1 H1 α1 e1 s1 w1 => by
    cases d1 with
    | true => rw [if_pos rfl] at w1 ⊢; exact tM.use s1 (w1.ext e1) fun d2 h2 v2 H2 α2 e2 s2 r2 w2 => w2 v2 H2 α2 (e1.trans e2) s2.heap r2
    | false => rw [if_neg Bool.false_ne_true] at w1 ⊢; exact tM.use s1 (w1.ext e1) fun d2 h2 v2 H2 α2 e2 s2 r2 w2 => w2 v2 H2 α2 (e1.trans e2) s2.heap r2
theorem zM {op} (h : PE X a (tM X.K g ε ma)) : PE X (.BoolOp op [a] pos) (tM X.K g ε ma) := ER h
theorem zh {K : PySem.W.Frag} {α : List Addr} {H H1 : Hp} {α1 : List Addr} {d : D} {v : V} {h : Hh} {β : Type} {f : Bool -> Hh -> R β} {k : β -> Hh -> Prop} (r : aU K g α1 H1 d v) (w : WQ K g ε α H ((asB d h).bind f) k) : ∃ b, v = .bl b /\ d = .bl b /\ WQ K g ε α H (f b h) k := by
  cases r with
  | bl b => exact ⟨b, rfl, rfl, w⟩
  | _ => exact w.elim
theorem Ac (ha : PE X a (tM X.K g ε ma)) (hb : PE X (.BoolOp .And (b :: rest) pos) (tM X.K g ε mb)) : PE X (.BoolOp .And (a :: b :: rest) pos) (tM X.K g ε (xa ma mb)) :=
  PE.imp (Eu ha hb) fun σ H Q ⟨α, env, h, s, w⟩ => tM.use s w.bind fun d1 h1 v1 H1 α1 e1 s1 r1 w1 => by
    obtain ⟨k, rfl, rfl, w2⟩ := zh r1 w1
    refine ⟨k, rfl, ?_⟩
    cases k with
    | true => rw [if_pos rfl] at w2 ⊢; exact tM.use s1 (w2.ext e1) fun d2 h2 v2 H2 α2 e2 s2 r2 w2 => w2 v2 H2 α2 (e1.trans e2) s2.heap r2
    | false => rw [if_neg Bool.false_ne_true] at w2 ⊢; exact w2 _ H1 α1 e1 s1.heap (.bl false)
theorem EM (ha : PE X a (tM X.K g ε ma)) : PE X (.UnaryOp .Not a pos) (tM X.K g ε (A7 ma)) :=
  PE.imp (Ea ha) fun σ H Q ⟨α, env, h, s, w⟩ => tM.use s w.bind fun d1 h1 v1 H1 α1 e1 s1 r1 w1 => by
    obtain ⟨k, rfl, rfl, w2⟩ := zh r1 w1
    exact ⟨k, rfl, w2 _ H1 α1 e1 s1.heap (.bl _)⟩
variable {mr : MA}
theorem aj : PA X [] (tMA X.K g ε ak) := PA.imp r9 fun σ H Q ⟨α, env, h, s, w⟩ => w [] H α Ext.refl s.heap .nil
theorem af (ha : PE X e (tM X.K g ε ma)) (hr : PA X es (tMA X.K g ε mr)) (hs : starEach (e :: es) X.env = (false, eval e X.env) :: starEach es X.env := by rfl) : PA X (e :: es) (tMA X.K g ε (aa ma mr)) :=
  PA.imp (lE ha hr hs) fun σ H Q ⟨α, env, h, s, w⟩ => tM.use s w.bind fun d1 h1 v1 H1 α1 e1 s1 r1 w1 => tMA.use s1 (w1.ext e1).bind fun d2 h2 v2 H2 α2 e2 s2 r2 w2 => w2 _ H2 α2 (e1.trans e2) s2.heap (.cons (r1.ext e2) r2)
noncomputable def lW : List D -> Hh -> R D := fun ds h => if ds.length <= 1000000 then .ok (.tup ds) h else .bad
theorem aX.tup {K : PySem.W.Frag} {α : List Addr} {H : Hp} {h : Hh} {ds : List D} {vs : List V} {Q : VK} {p : Addr} (w : aX K g α H Q (.tup ds) h) (r : bh K g α H h) (rd : az K g α H ds vs) (n : H p = none) : Q (.ref p) (upd H p (.tup vs)) :=
  w _ _ α (Ext.fresh n) (r.grow n) (.tup aY (rd.ext (Ext.fresh n)))
theorem WQ.e_ {K : PySem.W.Frag} {α : List Addr} {H : Hp} {β : Type} {c : Prop} [Decidable c] {r : R β} {k : β -> Hh -> Prop} (w : WQ K g ε α H (if c then r else .bad) k) : c /\ WQ K g ε α H r k := by
  by_cases h : c
  · rw [if_pos h] at w; exact ⟨h, w⟩
  · rw [if_neg h] at w; exact w.elim
theorem ia {n : Nat} (h : n <= 1000000) : n <= sizeLine := by rw [sizeLine_eq]; omega
theorem sh {x1} (ha : PA X es (tMA X.K g ε mr)) : PE X (.Tuple es x1 pos) (tM X.K g ε (ah lW mr)) :=
  PE.imp (Ey ha) fun σ H Q ⟨α, env, h, s, w⟩ => tMA.use s w.bind fun d1 h1 v1 H1 α1 e1 s1 r1 w1 => by
    obtain ⟨hl, w2⟩ := WQ.e_ w1
    exact ⟨ia (by rw [<- r1.length]; exact hl), fun p hp => aX.tup (aX.ext e1 w2) s1.heap r1 hp⟩
theorem zv {f : List D -> Hh -> R D} {r : List V -> Hp -> VK -> Prop} {K : PySem.W.Frag} (im : lQ K g ε f r) {σ : St} {H : Hp} {Q : VK} (t : tM K g ε (ah f mr) σ H Q) : tCB r (tMA K g ε mr) σ H Q := by
  obtain ⟨α, env, h, s, w⟩ := t
  exact tMA.use s w.bind fun d1 h1 v1 H1 α1 e1 s1 r1 w1 => im α1 H1 h1 d1 v1 Q s1.heap r1 (w1.post e1)
theorem aN {id : String} {x : Str} {p : Pos} {f : List D -> Hh -> R D} {r : List V -> Hp -> VK -> Prop} (hc : bO X (.builtin id) r) (im : lQ X.K g ε f r) (hg : Gl X x) (hm : X.mg x = none) (hv : bootBuiltins x = some (.builtin id)) (ha : PA X (e :: es) (tMA X.K g ε mr)) (hn : x ≠ "__name__" := by decide) (hdb : (x == ("__debug__" : Str)) = false := by decide)
    (he : starEach (e :: es) X.env = (false, eval e X.env) :: starEach es X.env := by rfl) (hpl : (backTo pos (starEach es X.env)).any (·.1) = false := by rfl) : PE X (.Call (.Name x p) (e :: es) [] pos) (tM X.K g ε (ah f mr)) :=
  PE.imp (ux hc hg hm hv ha hn hdb he hpl) fun _ _ _ t => zv im t
theorem cu {id : String} {x : Str} {p : Pos} {f : List D -> Hh -> R D} {r : List V -> Hp -> VK -> Prop} (hc : bO X (.type id) r) (im : lQ X.K g ε f r) (hg : Gl X x) (hm : X.mg x = none) (hv : bootBuiltins x = some (.type id)) (ha : PA X (e :: es) (tMA X.K g ε mr)) (hn : x ≠ "__name__" := by decide) (hdb : (x == ("__debug__" : Str)) = false := by decide)
    (he : starEach (e :: es) X.env = (false, eval e X.env) :: starEach es X.env := by rfl) (hpl : (backTo pos (starEach es X.env)).any (·.1) = false := by rfl) : PE X (.Call (.Name x p) (e :: es) [] pos) (tM X.K g ε (ah f mr)) :=
  PE.imp (mn hc hg hm hv ha hn hdb he hpl) fun _ _ _ t => zv im t
end
noncomputable def bX : MS := fun env h => .ok (.nx env) h
noncomputable def aG (a b : MS) : MS := fun env h => (a env h).bind fun fl h1 => match fl with
  | .nx e => b e h1
  | fl => .ok fl h1
noncomputable def cb (a : ME) : MS := fun env h => (a env h).bind fun _ h1 => .ok (.nx env) h1
noncomputable def br (a : ME) : MS := fun env h => (a env h).bind fun d h1 => .ok (.rt d) h1
noncomputable def dA (c : MT) (a b : MS) : MS := fun env h => (c env h).bind fun x h1 => if x = true then a env h1 else b env h1
noncomputable def bC (i : Nat) (a : ME) : MS := fun env h => (a env h).bind fun d h1 => .ok (.nx (env.set i (some d))) h1
noncomputable def xY (i j : Nat) (a : MA) : MS := fun env h => (a env h).bind fun ds h1 => match ds with
  | [x, y] => .ok (.nx ((env.set i (some x)).set j (some y))) h1
  | _ => .bad
noncomputable def eO (f : D -> D -> D -> Hh -> R Unit) (o i v : ME) : MS := fun env h => (v env h).bind fun x h1 => (o env h1).bind fun y h2 => (i env h2).bind fun z h3 => (f y z x h3).bind fun _ h4 => .ok (.nx env) h4
noncomputable def Eh : MS := fun _ _ => .bad
section
variable {X : Cx} {g : GG} {ε : EE} {e : Expr} {me : ME} {ms mu : MS} {mt : MT} {st : Stmt} {rest : List Stmt} {pos : Pos}
theorem dJ.nx {K : PySem.W.Frag} {α α' : List Addr} {H H' : Hp} {env : En} {σ : St} {h' : Hh} {E : Ends} (s : dJ K g α' H' env σ h') (e : Ext K α H α' H') (w : cY K g α H E (.nx env) h') : E.nx σ H' := w H' α' e s.heap σ s.vs
theorem cz : PSs X [] (tMS X.K g ε bX) := PSs.imp Cz fun E σ H ⟨α, env, h, s, w⟩ => s.nx Ext.refl w
theorem tMS.use {K : PySem.W.Frag} {α : List Addr} {H : Hp} {env : En} {σ : St} {h : Hh} {m : MS} {E : Ends} {k : Fl -> Hh -> Prop} (s : dJ K g α H env σ h) (w : WQ K g ε α H (m env h) k)
    (q : ∀ fl h' H' α', Ext K α H α' H' -> bh K g α' H' h' -> k fl h' -> match fl with
      | .nx e => ∀ σ', dJ K g α' H' e σ' h' -> E.nx σ' H'
      | .bk e => ∀ σ', dJ K g α' H' e σ' h' -> E.bk σ' H'
      | .ct e => ∀ σ', dJ K g α' H' e σ' h' -> E.ct σ' H'
      | .rt d => ∀ v, aU K g α' H' d v -> E.rt v H') : tMS K g ε m E σ H :=
  ⟨α, env, h, s, w.mono fun fl h' _ kk H' α' e r => by
    have := q fl h' H' α' e r kk
    cases fl with
    | nx e => exact fun σ' v => this σ' ⟨r, v⟩
    | bk e => exact fun σ' v => this σ' ⟨r, v⟩
    | ct e => exact fun σ' v => this σ' ⟨r, v⟩
    | rt d => exact this⟩
theorem au (h1 : PS X st (tMS X.K g ε ms)) (h2 : PSs X rest (tMS X.K g ε mu)) : PSs X (st :: rest) (tMS X.K g ε (aG ms mu)) :=
  PSs.imp (zR h1 h2) fun E σ H ⟨α, env, h, s, w⟩ => tMS.use s w.bind fun fl h' H' α' e r kk => by
    cases fl with
    | nx env' => exact fun σ' s' => ⟨α', env', h', s', WQ.xn e kk⟩
    | bk env' => exact fun σ' s' => (show cY X.K g α H E (.bk env') h' from kk) H' α' e r σ' s'.vs
    | ct env' => exact fun σ' s' => (show cY X.K g α H E (.ct env') h' from kk) H' α' e r σ' s'.vs
    | rt d => exact fun v rv => (show cY X.K g α H E (.rt d) h' from kk) H' α' e r v rv
theorem aA (h1 : PS X st (tMS X.K g ε ms)) : PSs X [st] (tMS X.K g ε ms) := BV h1
theorem cp (he : PE X e (tM X.K g ε me)) (hs : swapsWith e none pos.line X.env = pure false := by rfl) : PS X (.Expr e pos) (tMS X.K g ε (cb me)) :=
  PS.imp (BZ he hs) fun E σ H ⟨α, env, h, s, w⟩ => tM.use s w.bind fun d1 h1 v1 H1 α1 e1 s1 r1 w1 => s1.nx e1 w1
theorem bq (he : PE X e (tM X.K g ε me)) : PS X (.Return (some e) pos) (tMS X.K g ε (br me)) :=
  PS.imp (Fw he) fun E σ H ⟨α, env, h, s, w⟩ => tM.use s w.bind fun d1 h1 v1 H1 α1 e1 s1 r1 w1 => (show cY X.K g α H E (.rt d1) h1 from w1) H1 α1 e1 s1.heap v1 r1
theorem iV {c : Expr} {A B : List Stmt} (hc : PT X c (tMT X.K g ε mt)) (ha : PSs X A (tMS X.K g ε ms)) (hb : PSs X B (tMS X.K g ε mu)) : PS X (.If c A B pos) (tMS X.K g ε (dA mt ms mu)) :=
  PS.imp (GX hc ha hb) fun E σ H ⟨α, env, h, s, w⟩ => tMT.use s w.bind fun d1 h1 H1 α1 e1 s1 w1 => by
    cases d1 with
    | true => rw [if_pos rfl] at w1 ⊢; exact ⟨α1, env, h1, s1, WQ.xn e1 w1⟩
    | false => rw [if_neg Bool.false_ne_true] at w1 ⊢; exact ⟨α1, env, h1, s1, WQ.xn e1 w1⟩
theorem cL {i : Nat} {x : Str} {pos' : Pos} (hN : X.N.Nodup) (hi : X.N[i]? = some x) (hx : Loc X.env.scope x) (he : PE X e (tM X.K g ε me)) (hs : swapsWith e (some (.Name x pos')) pos.line X.env = pure false := by rfl) (hf : X.fn x = true \/ X.env.scope.names.lookup x = some .local := by first | exact .inl rfl | exact .inr rfl | assumption) :
    PS X (.Assign [.Name x pos'] e pos) (tMS X.K g ε (bC i me)) :=
  PS.imp (D6 hN hi hx he hs hf) fun E σ H ⟨α, env, h, s, w⟩ => tM.use s w.bind fun d1 h1 v1 H1 α1 e1 s1 r1 w1 => (show cY X.K g α H E (.nx (env.set i (some d1))) h1 from w1) H1 α1 e1 s1.heap _ (s1.vs.set r1)
theorem F_ {i j : Nat} {x y : Str} {a b : Expr} {ma : MA} {px py pt : Pos} {kt k2 pt2} (hc : X.calm = true) (hN : X.N.Nodup) (hi : X.N[i]? = some x) (hj : X.N[j]? = some y) (hij : i ≠ j)
    (hx : X.env.scope.names.lookup x = some .local) (hy : X.env.scope.names.lookup y = some .local) (ha : PA X [a, b] (tMA X.K g ε ma))
    (hw : swappedStores [.Tuple [.Name x px, .Name y py] kt pt] (.Tuple [a, b] k2 pt2) X.env = pure (some [x, y]))
    (hs : swapsWithSole [.Tuple [.Name x px, .Name y py] kt pt] (.Tuple [a, b] k2 pt2) pos.line X.env = pure false := by rfl) :
    PS X (.Assign [.Tuple [.Name x px, .Name y py] kt pt] (.Tuple [a, b] k2 pt2) pos) (tMS X.K g ε (xY i j ma)) :=
  PS.imp (Ek hc hN hi hj hij hx hy ha hw hs) fun E σ H ⟨α, env, h, s, w⟩ => tMA.use s w.bind fun d1 h1 v1 H1 α1 e1 s1 r1 w1 => by
    cases r1 with
    | nil => exact w1.elim
    | cons ra rr =>
      cases rr with
      | nil => exact w1.elim
      | cons rb rr =>
        cases rr with
        | nil => exact ⟨_, _, rfl, (show cY X.K g α H E (.nx _) h1 from w1) H1 α1 e1 s1.heap _ ((s1.vs.set ra).set rb)⟩
        | cons _ _ => exact w1.elim
noncomputable def G7 (K : PySem.W.Frag) (g : GG) (ε : EE) (f : D -> D -> D -> Hh -> R Unit) (t : wC) : Prop :=
  ∀ (α : List Addr) (H : Hp) (h : Hh) (o i v : D) (x y z : V) (Q : Hp -> Prop), bh K g α H h -> aU K g α H o x -> aU K g α H i y -> aU K g α H v z -> WQ K g ε α H (f o i v h) (fun _ h' => ∀ H' α', Ext K α H α' H' -> bh K g α' H' h' -> Q H') -> t x y z H Q
theorem jJ {o i : Expr} {mo mi : ME} {t : wC} {f : D -> D -> D -> Hh -> R Unit} {p : Pos} (he : PE X e (tM X.K g ε me)) (ho : PE X o (tM X.K g ε mo)) (hi : PE X i (tM X.K g ε mi)) (hp : Dt X t) (im : G7 X.K g ε f t)
    (ha : ∀ v, assign (.Subscript o i p) X.env v = (do
      let ov ← holding [v] (eval o X.env)
      let iv ← holding [v, ov] (eval i X.env)
      standAt p
      holding [v, ov, iv] (setItem ov iv v)
      release [v, ov, iv] []) := by intro _; rfl)
    (hs : swapsWithSole [.Subscript o i p] e pos.line X.env = pure false := by rfl) (hw : swappedStores [.Subscript o i p] e X.env = pure none := by rfl)
    (h1 : (assignEach [.Subscript o i p] X.env).map (·.2) = [assign (.Subscript o i p) X.env] := by rfl) : PS X (.Assign [.Subscript o i p] e pos) (tMS X.K g ε (eO f mo mi me)) :=
  PS.imp (AZ he (Ej ho hi hp ha) hs hw h1) fun E σ H ⟨α, env, h, s, w⟩ => tM.use s w.bind fun d1 h1 v1 H1 α1 e1 s1 r1 w1 => tM.use s1 (w1.ext e1).bind fun d2 h2 v2 H2 α2 e2 s2 r2 w2 => tM.use s2 (w2.ext e2).bind fun d3 h3 v3 H3 α3 e3 s3 r3 w3 => by
    refine im α3 H3 h3 d2 d3 d1 v2 v3 v1 _ s3.heap (r2.ext e3) r3 ((r1.ext e2).ext e3) ((w3.ext e3).bind.mono fun _ h4 _ w4 H4 α4 e4 hr4 => ?_)
    exact (show cY X.K g α H E (.nx env) h4 from w4) H4 α4 (e1.trans (e2.trans (e3.trans e4))) hr4 _ (s3.vs.ext e4)
end
theorem wU {X : Cx} {pins : List (Addr × Obj)} {σ : St} {H : Hp} {s : Shared} {p : Addr} {u : HO} (I : Inv X pins σ H s) (h : H p = some u) (mu : Mut (some u)) : ∃ o, Inv X pins σ (upd H p (.frz o u)) s := by
  obtain ⟨o, ho⟩ : ∃ o, s.heap.get? p = some o := by
    have hl := (I.hok p _ h).lt
    cases e : s.heap.get? p with
    | some o => exact ⟨o, rfl⟩
    | none => 
      have q := I.hok p _ h
      cases u with
      | lst xs => obtain ⟨_, _, _, _, e'⟩ := q; rw [e] at e'; cases e'
      | dK kvs => obtain ⟨_, _, _, _, o, _, _, e', _⟩ := q; rw [e] at e'; cases e'
      | dT kvs => obtain ⟨_, _, _, _, o, _, _, e', _⟩ := q; rw [e] at e'; cases e'
      | set S n => obtain ⟨o, _, _, _, e', _⟩ := q; rw [e] at e'; cases e'
      | ins C dx fs => obtain ⟨_, _, _, e', _⟩ := q; rw [e] at e'; cases e'
      | ext φ => obtain ⟨_, ⟨_, e'⟩, _⟩ := q; rw [e] at e'; cases e'
      | _ => exact absurd mu (fun z => z)
  have nt : ∀ b xs, H b = some (.tup xs) -> b ≠ p := fun b xs e z => by subst z; rw [h] at e; cases e; exact mu
  have nf : ∀ b o u, H b = some (.frz o u) -> b ≠ p := fun b o u e z => by subst z; rw [h] at e; cases e; exact mu
  have nb : ∀ b ps, H b = some (.tbl ps) -> b ≠ p := fun b ps e z => by subst z; rw [h] at e; cases e; exact mu
  have no : ∀ b y, H b = some (.own y) -> b ≠ p := fun b ps e z => by subst z; rw [h] at e; cases e; exact mu
  have hok : HOk X.prog X.w (upd H p (.frz o u)) s.heap := fun b v q => by
    by_cases hb : b = p
    · subst hb
      rw [aY] at q; cases q
      exact ⟨ho, (I.hok b _ h).pd (fun _ _ _ z => z) (fun c z => by rw [aW (no c _ z)]; exact z) fun c xs z => by rw [aW (nt c xs z)]; exact z⟩
    · rw [aW hb] at q
      exact (I.hok b v q).pd (fun _ _ _ z => z) (fun c z => by rw [aW (no c _ z)]; exact z) fun c xs z => by rw [aW (nt c xs z)]; exact z
  refine ⟨o, ?_⟩
  have np : ∀ b, H b = none -> b ≠ p := fun b e z => by subst z; rw [h] at e; cases e
  have := I.un (H' := upd H p (.frz o u)) (h' := s.heap) (t' := s.toks) ⟨fun b o q _ _ _ => q, fun b o q _ _ _ => ⟨o.slots, q⟩, fun b v q n _ => (by rw [aW (np b n)]; exact n), fun b o q _ => ⟨o, q⟩, fun b xs q => (by rw [aW (nt b xs q)]; exact q), fun b o v q => (by rw [aW (nf b o v q)]; exact q), fun b ps q => ⟨#[], by rw [aW (nb b ps q), q]; simp⟩⟩ hok
  exact this
noncomputable def i4 (Q : VK) : VK := fun v H => Q v H \/ ∃ p u, v = .ref p /\ H p = some u /\ Mut (some u) /\ ∀ o, Q v (upd H p (.frz o u))
theorem EP.frz {X : Cx} {pins : List (Addr × Obj)} {σ : St} {Q : VK} {u : Value} {s' : Shared} (h : EP X pins σ (i4 Q) u s') : EP X pins σ Q u s' := by
  obtain ⟨v, H', I, r, q | ⟨p, u, rfl, e, m, q⟩⟩ := h
  · exact ⟨v, H', I, r, q⟩
  · obtain ⟨o, I'⟩ := wU I e m
    exact ⟨_, _, I', r, q o⟩
theorem PE.frz {X : Cx} {e : Expr} {t : TE} (h : PE X e t) : PE X e fun σ H Q => t σ H (i4 Q) := fun pins s σ H Q I w => thn (h pins s σ H _ I w) fun _ _ z => EP.frz z
theorem OpR.frz {X : Cx} {f : Value -> Value -> Sem Value} {r : R2} (h : OpR X f r) : OpR X f fun x y H Q => r x y H (i4 Q) := fun pins s σ H x y v u Q I rx ry q => thn (h pins s σ H x y v u _ I rx ry q) fun _ _ z => EP.frz z
theorem bO.frz {X : Cx} {f : Value} {r : List V -> Hp -> VK -> Prop} (h : bO X f r) : bO X f fun xs H Q => r xs H (i4 Q) := fun pins s σ H xs us Q I rx q => thn (h pins s σ H xs us _ I rx q) fun _ _ z => EP.frz z
noncomputable def Hj (D : Ends) : Ends := { D with nx := fun σ H => D.nx σ H \/ ∃ p u, H p = some u /\ Mut (some u) /\ ∀ o, D.nx σ (upd H p (.frz o u)) }
theorem PS.frz {X : Cx} {st : Stmt} {t : TS} (h : PS X st t) : PS X st fun E σ H => t (Hj E) σ H := fun pins s σ H E I w => thn (h pins s σ H _ I w) fun fl s' z => by
  cases fl with
  | next =>
    obtain ⟨σ', H', I, q | ⟨p, u, e, m, q⟩⟩ := z
    · exact ⟨σ', H', I, q⟩
    · obtain ⟨o, I'⟩ := wU I e m
      exact ⟨σ', _, I', q o⟩
  | brk => exact z
  | cont => exact z
  | ret u => exact z
theorem CW {E : Ends} {σ : St} {i : Nat} {v : V} {H1 : Hp} (z : i4 (fun v H1 => E.nx (σ.set i (some v)) H1) v H1) : (Hj E).nx (σ.set i (some v)) H1 := by
  rcases z with z | ⟨p, u, _, e, m, q⟩
  · exact .inl z
  · exact .inr ⟨p, u, e, m, q⟩
noncomputable abbrev NL := List D -> Hh -> R D
noncomputable def iY : NL := fun ys h2 => .ok (.ref h2.length) (h2 ++ [O.lst ys])
noncomputable def aC : NL := fun ys h2 => .ok (.frl ys) h2
class iN (nl : NL) : Prop where
  at' : ∀ {K : PySem.W.Frag} {g : GG} {ε : EE} {α1 α2 : List Addr} {H1 H2 : Hp} {h : Hh} {as : List D} {ys : List V} {acc : Addr} {Q : D -> Hh -> Prop} {R : VK}, WQ K g ε α1 H1 (nl as h) Q -> (∀ d h', Q d h' -> aX K g α1 H1 R d h') -> Ext K α1 H1 α2 H2 -> bh K g α2 H2 h -> az K g α2 H2 as ys -> H2 acc = some (.lst ys) -> acc ∉ α2 -> H1 acc = none -> i4 R (.ref acc) H2
instance : iN iY where
  at' := fun {K g ε α1 α2 H1 H2 h as ys acc Q R} w hq x2 hr2 ra ha hna hacc => by
    have x3 : Ext K α1 H1 (α2 ++ [acc]) H2 := ⟨x2.toEx0.trans (Ex0.refl.more _), x2.keep, fun p z n => by
      rcases List.mem_append.mp z with z | z
      · exact x2.new p z n
      · rw [List.mem_singleton.mp z]; exact hacc⟩
    refine .inl (hq _ _ w _ H2 (α2 ++ [acc]) x3 (hr2.adopt hna ⟨ys, ha, ra.ex0 (Ex0.refl.more _)⟩) (.ref ?_))
    rw [<- hr2.len, List.getElem?_append_right (Nat.le_refl _)]; simp
instance : iN aC where
  at' := fun {K g ε α1 α2 H1 H2 h as ys acc Q R} w hq x2 hr2 ra ha hna hacc => by
    refine .inr ⟨acc, _, rfl, ha, trivial, fun o => ?_⟩
    have soft : Bh H2 acc := .inr ⟨_, ha, fun _ z => (nomatch z), fun _ _ z => nomatch z⟩
    have x6 : Ex0 K α2 H2 α2 (upd H2 acc (.frz o (.lst ys))) := Ex0.upd soft
    refine hq _ _ w _ _ α2 ⟨x2.toEx0.trans x6, fun p u z n => ?_, x2.new⟩ (hr2.off soft hna) (.frl ⟨o, aY⟩ (ra.ex0 x6))
    rw [aW (cE z hacc)]; exact x2.keep p u z n
theorem NL.post {nl : NL} [iN nl] {K : PySem.W.Frag} {g : GG} {ε : EE} {α : List Addr} {H : Hp} {h : Hh} {ds : List D} {vs : List V} {Q : VK} {p : Addr} (w : WQ K g ε α H (nl ds h) (aX K g α H Q)) (r : bh K g α H h) (rd : az K g α H ds vs) (n : H p = none) : i4 Q (.ref p) (upd H p (.lst vs)) :=
  iN.at' w (fun _ _ z => z) (Ext.fresh n) (r.grow n) (rd.ext (Ext.fresh n)) aY (r.free n) n
noncomputable def fo (nl : NL) : List D -> Hh -> R D := fun ds h => if ds.length <= 1000000 then nl ds h else .bad
theorem eh {X : Cx} {g : GG} {ε : EE} {es : List Expr} {mr : MA} {pos : Pos} {nl : NL} [iN nl] (ha : PA X es (tMA X.K g ε mr)) : PE X (.List es pos) (tM X.K g ε (ah (fo nl) mr)) :=
  PE.imp (PE.frz (E5 ha)) fun σ H Q ⟨α, env, h, s, w⟩ => tMA.use s w.bind fun d1 h1 v1 H1 α1 e1 s1 r1 w1 => by
    obtain ⟨hl, w2⟩ := WQ.e_ w1
    exact ⟨ia (by rw [<- r1.length]; exact hl), fun p hp => NL.post (w2.post e1) s1.heap r1 hp⟩
noncomputable def aH (h : Hh) (n : Nat) : Option (List D) := match h[n]? with
  | some (.lst ds) => some ds
  | _ => none
inductive Src where
  | snap (ds : List D)
  | live (n : Nat)
  | liveE (n : Nat)
noncomputable abbrev MI := En -> Hh -> R Src
noncomputable abbrev Rdr := Hh -> Nat -> Option (Option D)
noncomputable def Src.rdr : Src -> Rdr
  | .snap ds => fun _ i => some ds[i]?
  | .live n => fun h i => (aH h n).map fun ds => ds[i]?
  | .liveE n => fun h i => (aH h n).map fun ds => (ds[i]?).map fun d => D.tup [.int i, d]
noncomputable def Src.fuel (s : Src) (h : Hh) : Nat := match s with
  | .snap ds => ds.length
  | .live n => ((aH h n).getD []).length
  | .liveE n => ((aH h n).getD []).length
noncomputable def Reads (K : PySem.W.Frag) (g : GG) (J : It) (rd : Rdr) (α₀ : List Addr) (aB : Hp) : Prop :=
  ∀ (α : List Addr) (H : Hp) (h : Hh), Ext K α₀ aB α H -> bh K g α H h -> ∀ i, match rd h i with
    | none => True
    | some none => J.stop i H
    | some (some d) => J.go i H /\ ∀ x H', J.yld i H x H' -> ∃ α', Ext K α H α' H' /\ bh K g α' H' h /\ aU K g α' H' d x
noncomputable def tMI (K : PySem.W.Frag) (g : GG) (ε : EE) (m : MI) : TI := fun σ H T => ∃ α env h, dJ K g α H env σ h /\ WQ K g ε α H (m env h) fun sr h' => ∀ J H' α', Ext K α H α' H' -> bh K g α' H' h' -> Reads K g J sr.rdr α' H' -> T J H'
theorem PI.imp {X : Cx} {tg e : Expr} {t t' : TI} (h : PI X tg e t) (i : ∀ σ H Q, t' σ H Q -> t σ H Q) : PI X tg e t' := fun pins s σ H Q I w => h pins s σ H Q I (i σ H Q w)
noncomputable def lK (rd : Rdr) (tg : D -> En -> Hh -> R En) (body : MS) : Nat -> Nat -> En -> Hh -> R Fl
  | k, i, env, h => match rd h i with
    | none => .bad
    | some none => .ok (.nx env) h
    | some (some d) => match k with
      | 0 => .bad
      | k + 1 => (tg d env h).bind fun e1 h1 => (body e1 h1).bind fun fl h2 => match fl with
        | .nx e => lK rd tg body k (i + 1) e h2
        | .ct e => lK rd tg body k (i + 1) e h2
        | .bk e => .ok (.nx e) h2
        | .rt d => .ok (.rt d) h2
noncomputable def ef (tg : D -> En -> Hh -> R En) (body : MS) : List D -> En -> Hh -> R Fl
  | [], env, h => .ok (.nx env) h
  | d :: ds, env, h => (tg d env h).bind fun e1 h1 => (body e1 h1).bind fun fl h2 => match fl with
    | .nx e => ef tg body ds e h2
    | .ct e => ef tg body ds e h2
    | .bk e => .ok (.nx e) h2
    | .rt d => .ok (.rt d) h2
theorem B9 (tg : D -> En -> Hh -> R En) (body : MS) (all : List D) : ∀ (ds : List D) (i : Nat) (env : En) (h : Hh), all.drop i = ds -> lK (Src.snap all).rdr tg body ds.length i env h = ef tg body ds env h := by
  intro ds
  induction ds with
  | nil =>
    intro i env h e
    have : all[i]? = none := by
      have := congrArg List.length e
      simp at this
      exact List.getElem?_eq_none (by omega)
    unfold lK ef Src.rdr
    simp [this]
  | cons d ds ih =>
    intro i env h e
    have h0 : all[i]? = some d := by
      have := congrArg (fun l => l[0]?) e
      simpa using this
    have h1 : all.drop (i + 1) = ds := by
      have := congrArg List.tail e
      simpa using this
    unfold lK ef
    have : (Src.snap all).rdr h i = some (some d) := by unfold Src.rdr; simp [h0]
    rw [this]
    show ((tg d env h).bind _) = _
    congr 1
    funext e1 h2
    congr 1
    funext fl h3
    cases fl with
    | nx e => exact ih (i + 1) e h3 h1
    | ct e => exact ih (i + 1) e h3 h1
    | bk e => rfl
    | rt d => rfl
noncomputable def eN (mi : MI) (tg : D -> En -> Hh -> R En) (body : MS) : MS := fun env h => (mi env h).bind fun sr h1 => match sr with
  | .snap ds => ef tg body ds env h1
  | .live n => lK (Src.live n).rdr tg body ((aH h1 n).getD []).length 0 env h1
  | .liveE n => lK (Src.liveE n).rdr tg body ((aH h1 n).getD []).length 0 env h1
theorem Dq {mi : MI} {tg : D -> En -> Hh -> R En} {body : MS} {env : En} {h : Hh} : eN mi tg body env h = (mi env h).bind fun sr h1 => lK sr.rdr tg body (sr.fuel h1) 0 env h1 := by
  unfold eN
  congr 1
  funext sr h1
  cases sr with
  | snap ds => exact (B9 tg body ds ds 0 env h1 rfl).symm
  | live n => rfl
  | liveE n => rfl
noncomputable def gN (i : Nat) : D -> En -> Hh -> R En := fun d env h => .ok (env.set i (some d)) h
noncomputable def gT2 (i j : Nat) : D -> En -> Hh -> R En := fun d env h => match d with
  | .tup [x, y] => .ok ((env.set i (some x)).set j (some y)) h
  | _ => .bad
noncomputable def E3 (K : PySem.W.Frag) (g : GG) (ε : EE) (tg : D -> En -> Hh -> R En) (t : TG) : Prop :=
  ∀ (α : List Addr) (H : Hp) (h : Hh) (env : En) (σ : St) (d : D) (x : V) (Q : St -> Hp -> Prop), dJ K g α H env σ h -> aU K g α H d x →
    WQ K g ε α H (tg d env h) (fun e1 h1 => ∀ σ' H' α', Ext K α H α' H' -> dJ K g α' H' e1 σ' h1 -> Q σ' H') -> t x σ H Q
theorem fD {K : PySem.W.Frag} {g : GG} {ε : EE} {i : Nat} : E3 K g ε (gN i) (eA i) := fun α H h env σ d x Q s r w => w _ H α Ext.refl ⟨s.heap, s.vs.set r⟩
theorem oq {K : PySem.W.Frag} {g : GG} {ε : EE} {i j : Nat} : E3 K g ε (gT2 i j) (Aw K 2 (lD (eA i) (lD (eA j) zy))) := fun α H h env σ d x Q s r w => by
  unfold gT2 at w
  cases r with
  | tup hq rs =>
    cases rs with
    | nil => exact w.elim
    | cons ra rr =>
      cases rr with
      | nil => exact w.elim
      | cons rb rr =>
        cases rr with
        | nil => exact ⟨_, _, rfl, SqT.of hq, rfl, _, _, rfl, _, _, rfl, rfl, w _ H α Ext.refl ⟨s.heap, (s.vs.set ra).set rb⟩⟩
        | cons _ _ => exact w.elim
  | _ => exact w.elim
section
variable {X : Cx} {g : GG} {ε : EE}
theorem gS {tg iter : Expr} {body : List Stmt} {mi : MI} {t : TG} {fg : D -> En -> Hh -> R En} {mb : MS} {pos : Pos} (hp : PassesOwn (model X.prog X.w) X.A X.env X.xe) (hc : X.calm = true) (hi : PI X tg iter (tMI X.K g ε mi)) (hg : PG X tg t) (ig : E3 X.K g ε fg t) (hb : PSs X body (tMS X.K g ε mb))
    (hs : ∀ x, foldedSetIterable iter X.env x = pure x := by intro _; rfl) : PS X (.For tg iter body [] pos) (tMS X.K g ε (eN mi fg mb)) := by
  refine PS.imp (Fh hp hc hi hg hb hs) fun E σ H ⟨α, env, h, s, w⟩ => ?_
  rw [Dq] at w
  refine ⟨α, env, h, s, w.bind.mono fun sr h1 _ w1 J H1 α1 e1 hr1 rd => ?_⟩
  refine ⟨fun i m σ H => ∃ α env h, Ext X.K α1 H1 α H /\ dJ X.K g α H env σ h /\ WQ X.K g ε α H (lK sr.rdr fg mb m i env h) (cY X.K g α H E), ⟨sr.fuel h1, α1, env, h1, Ext.refl, s.ext e1 hr1, w1.xn e1⟩, ?_⟩
  rintro i m σ2 H2 ⟨α2, env2, h2, x2, s2, w2⟩
  have q := rd α2 H2 h2 x2 s2.heap i
  unfold lK at w2
  cases e : sr.rdr h2 i with
  | none => rw [e] at w2; exact w2.elim
  | some od =>
    rw [e] at w2 q
    cases od with
    | none => exact .inl ⟨q, s2.nx Ext.refl w2⟩
    | some d =>
      cases m with
      | zero => exact w2.elim
      | succ m =>
        have w3 := WQ.bind (show WQ X.K g ε α2 H2 ((fg d env2 h2).bind _) _ from w2)
        refine .inr ⟨q.1, fun σ' H' => ∃ α env h, Ext X.K α1 H1 α H' /\ dJ X.K g α H' env σ' h /\ WQ X.K g ε α H' (lK sr.rdr fg mb m (i + 1) env h) (cY X.K g α H' E), fun σ' H' z => ⟨m, Nat.lt_succ_self _, z⟩, fun x H3 y => ?_⟩
        obtain ⟨α3, x3, hr3, rx⟩ := q.2 x H3 y
        refine ig α3 H3 h2 env2 σ2 d x _ (s2.ext x3 hr3) rx ((w3.ext x3).mono fun e4 h4 _ w4 σ4 H4 α4 x4 s4 => ?_)
        refine tMS.use s4 ((w4.ext x3).ext x4).bind fun fl h5 H5 α5 x5 hr5 w5 => ?_
        have tr : Ext X.K α2 H2 α5 H5 := x3.trans (x4.trans x5)
        cases fl with
        | nx e => exact fun σ' s' => ⟨α5, e, h5, x2.trans tr, s', ((w5.ext x5)).mono fun _ _ _ p => p.ext tr⟩
        | ct e => exact fun σ' s' => ⟨α5, e, h5, x2.trans tr, s', ((w5.ext x5)).mono fun _ _ _ p => p.ext tr⟩
        | bk e => exact fun σ' s' => (show cY X.K g α2 H2 E (.nx e) h5 from w5) H5 α5 tr hr5 σ' s'.vs
        | rt d => exact fun v rv => (show cY X.K g α2 H2 E (.rt d) h5 from w5) H5 α5 tr hr5 v rv
theorem bh.lst {K : PySem.W.Frag} {α : List Addr} {H : Hp} {h : Hh} {n : Nat} {ds : List D} (r : bh K g α H h) (e : aH h n = some ds) {p : Addr} (hp : α[n]? = some p) : ∃ vs, H p = some (.lst vs) /\ az K g α H ds vs := by
  unfold aH at e
  cases o : h[n]? with
  | none => rw [o] at e; cases e
  | some o' =>
    rw [o] at e
    have q := r.here n p o' hp o
    cases o' with
    | lst ds' => cases e; obtain ⟨vs, a, b⟩ := q; exact ⟨vs, a, b⟩
    | set n => cases e
    | dic k => cases e
    | dit k => cases e
noncomputable def zu : D -> Hh -> R Src
  | .tup ds, h => .ok (.snap ds) h
  | .frl ds, h => .ok (.snap ds) h
  | .scr ds, h => .ok (.snap ds) h
  | .ref n, h => match aH h n with
    | some _ => .ok (.live n) h
    | none => .bad
  | _, _ => .bad
noncomputable def dH (a : ME) : MI := fun env h => (a env h).bind zu
noncomputable def IB (K : PySem.W.Frag) (tl : TE) : TI := fun σ H R => tl σ H fun x H1 => ∃ a, x = .ref a /\ (((∃ xs, SqL K H1 a xs) /\ R (Itl K a) H1) \/ ((∃ xs, SqT K H1 a xs) /\ R (Itt K a) H1))
theorem ES {tg l : Expr} {tl : TE} (hl : PE X l tl) : PI X tg l (IB X.K tl) := by
  intro pins s σ H R I h
  refine thn (hl pins s σ H _ I h) fun v s1 ⟨x, H1, I1, r1, q1⟩ => ?_
  obtain ⟨a, e, q⟩ := q1
  subst e
  cases r1
  rcases q with ⟨⟨xs, hq⟩, q⟩ | ⟨⟨xs, hq⟩, q⟩
  · obtain ⟨its, rv, p, hz⟩ := I1.list hq
    refine wpAny_pyIter_list p.isList ?_
    refine ⟨s1.heap.objs.size, [s1.heap.objs.size], _, _, H1, rfl, I1.kept (t' := s1.toks) fun b o e => Heap.get?_push_of_some _ e, yI a _, ⟨_, Heap.get?_push_size _ rfl, rfl, rfl⟩, fun b hb => ?_, q⟩
    have e : b = s1.heap.objs.size := by simpa using hb
    subst e
    exact I1.ya (Nat.le_refl _) (I1.hok.fresh (Nat.le_refl _))
  · obtain ⟨its, rv, p, hz⟩ := I1.tuple hq
    refine wpAny_pyIter_tuple (show s1.heap.IsTuple a its.toArray from p) ?_
    refine ⟨s1.heap.objs.size, [s1.heap.objs.size], _, _, H1, rfl, I1.kept (t' := s1.toks) fun b o e => Heap.get?_push_of_some _ e, vI a _, ⟨_, Heap.get?_push_size _ rfl, rfl, rfl⟩, fun b hb => ?_, q⟩
    have e : b = s1.heap.objs.size := by simpa using hb
    subst e
    exact I1.ya (Nat.le_refl _) (I1.hok.fresh (Nat.le_refl _))
theorem xZ {K : PySem.W.Frag} {α : List Addr} {H : Hp} {a : Addr} {ds : List D} {vs : List V} (hq' : H a = some (.tup vs)) (rs : az K g α H ds vs) : Reads K g (Itt K a) (Src.snap ds).rdr α H := by
  intro α2 H2 h2 x2 hr i
  have hq2 : SqT K H2 a vs := SqT.of (x2.tup _ _ hq')
  have rs2 := rs.ext x2
  show match some ds[i]? with | none => True | some none => _ | some (some d) => _
  cases e : ds[i]? with
  | none =>
    have : ds.length <= i := List.getElem?_eq_none_iff.mp e
    exact ⟨vs, hq2, by rw [<- rs.length]; exact this⟩
  | some d =>
    obtain ⟨v, ev, rv⟩ := rs2.get e
    refine ⟨⟨vs, v, hq2, ev⟩, fun x H' y => ?_⟩
    obtain ⟨e1, e2⟩ := y
    subst e1
    have := e2 vs hq2
    rw [ev] at this
    cases this
    exact ⟨α2, Ext.refl, hr, rv⟩
theorem qY {K : PySem.W.Frag} {α : List Addr} {H : Hp} {a : Addr} {ds : List D} {vs : List V} (hq : Fro K H a vs) (rs : az K g α H ds vs) : Reads K g (Itl K a) (Src.snap ds).rdr α H := by
  intro α2 H2 h2 x2 hr i
  have hq2 := x2.fro _ _ hq
  have rs2 := rs.ext x2
  show match some ds[i]? with | none => True | some none => _ | some (some d) => _
  cases e : ds[i]? with
  | none =>
    have : ds.length <= i := List.getElem?_eq_none_iff.mp e
    exact ⟨vs, hq2.sq, by rw [<- rs.length]; exact this⟩
  | some d =>
    obtain ⟨v, ev, rv⟩ := rs2.get e
    refine ⟨⟨vs, v, hq2.sq, ev⟩, fun x H' y => ?_⟩
    obtain ⟨e1, e2⟩ := y
    subst e1
    have := e2 vs hq2.sq
    rw [ev] at this
    cases this
    exact ⟨α2, Ext.refl, hr, rv⟩
theorem xJ {K : PySem.W.Frag} {α : List Addr} {H : Hp} {a : Addr} {n : Nat} (ha : α[n]? = some a) : Reads K g (Itl K a) (Src.live n).rdr α H := by
  intro α2 H2 h2 x2 hr i
  show match (aH h2 n).map fun ds => ds[i]? with | none => True | some none => _ | some (some d) => _
  cases e : aH h2 n with
  | none => trivial
  | some ds =>
    obtain ⟨vs, hq', rs⟩ := hr.lst e (x2.get ha)
    have hq : SqL K H2 a vs := SqL.of hq'
    show match some ds[i]? with | none => True | some none => _ | some (some d) => _
    cases ei : ds[i]? with
    | none =>
      have : ds.length <= i := List.getElem?_eq_none_iff.mp ei
      exact ⟨vs, hq, by rw [<- rs.length]; exact this⟩
    | some d =>
      obtain ⟨v, ev, rv⟩ := rs.get ei
      refine ⟨⟨vs, v, hq, ev⟩, fun x H' y => ?_⟩
      obtain ⟨e1, e2⟩ := y
      subst e1
      have := e2 vs hq
      rw [ev] at this
      cases this
      exact ⟨α2, Ext.refl, hr, rv⟩
theorem fU {tg e : Expr} {me : ME} (he : PE X e (tM X.K g ε me)) : PI X tg e (tMI X.K g ε (dH me)) :=
  PI.imp (ES he) fun σ H T ⟨α, env, h, s, w⟩ => tM.use s w.bind fun d1 h1 v1 H1 α1 e1 s1 r1 w1 => by
    unfold zu at w1
    cases r1 with
    | tup hq rs => exact ⟨_, rfl, .inr ⟨⟨_, SqT.of hq⟩, w1 _ H1 α1 e1 s1.heap (xZ hq rs)⟩⟩
    | frl hq rs => exact ⟨_, rfl, .inl ⟨⟨_, hq.sq⟩, w1 _ H1 α1 e1 s1.heap (qY hq.fro rs)⟩⟩
    | scr hq rs => exact ⟨_, rfl, .inl ⟨⟨_, hq.sq⟩, w1 _ H1 α1 e1 s1.heap (qY hq rs)⟩⟩
    | @ref n p hp =>
      cases el : aH h1 n with
      | none => simp only [el] at w1; exact w1.elim
      | some ds =>
        simp only [el] at w1
        obtain ⟨vs, hq, _⟩ := s1.heap.lst el hp
        exact ⟨p, rfl, .inl ⟨⟨_, SqL.of hq⟩, w1 _ H1 α1 e1 s1.heap (xJ hp)⟩⟩
    | _ => exact w1.elim
noncomputable def dN (ds : List D) : List D := (List.range ds.length).map fun (i : Nat) => D.tup [.int i, ds.getD i .non]
noncomputable def uB : D -> Hh -> R Src
  | .tup ds, h => .ok (.snap (dN ds)) h
  | .frl ds, h => .ok (.snap (dN ds)) h
  | .ref n, h => match aH h n with
    | some _ => .ok (.liveE n) h
    | none => .bad
  | _, _ => .bad
noncomputable def ie (a : ME) : MI := fun env h => (a env h).bind uB
theorem rf {ds : List D} {i : Nat} : (dN ds)[i]? = (ds[i]?).map fun d => D.tup [.int i, d] := by
  unfold dN
  rw [List.getElem?_map]
  by_cases hi : i < ds.length
  · have e : ds.getD i .non = ds[i] := by rw [List.getD_eq_getElem?_getD, List.getElem?_eq_getElem hi]; rfl
    rw [List.getElem?_range hi, List.getElem?_eq_getElem hi, Option.map_some, Option.map_some, e]
  · rw [List.getElem?_eq_none (by simpa using hi), List.getElem?_eq_none (by omega)]; rfl
theorem pN {K : PySem.W.Frag} {α : List Addr} {H : Hp} {h : Hh} {i : Nat} {d : D} {v : V} {p : Addr} (hr : bh K g α H h) (rv : aU K g α H d v) (hp : H p = none) :
    ∃ α', Ext K α H α' (upd H p (.tup [.int i, v])) /\ bh K g α' (upd H p (.tup [.int i, v])) h /\ aU K g α' (upd H p (.tup [.int i, v])) (.tup [.int i, d]) (.ref p) :=
  ⟨α, Ext.fresh hp, hr.grow hp, .tup aY (.cons (.int _) (.cons (rv.ext (Ext.fresh hp)) .nil))⟩
theorem uu {K : PySem.W.Frag} {α : List Addr} {H : Hp} {a : Addr} {ds : List D} {vs : List V} (hq' : H a = some (.tup vs)) (rs : az K g α H ds vs) : Reads K g (Iet K a) (Src.snap (dN ds)).rdr α H := by
  intro α2 H2 h2 x2 hr i
  have hq2 : SqT K H2 a vs := SqT.of (x2.tup _ _ hq')
  have rs2 := rs.ext x2
  show match some (dN ds)[i]? with | none => True | some none => _ | some (some d) => _
  rw [rf]
  cases e : ds[i]? with
  | none =>
    have : ds.length <= i := List.getElem?_eq_none_iff.mp e
    exact ⟨vs, hq2, by rw [<- rs.length]; exact this⟩
  | some d =>
    obtain ⟨v, ev, rv⟩ := rs2.get e
    refine ⟨⟨vs, v, hq2, ev⟩, fun x H' y => ?_⟩
    obtain ⟨p, v', e1, hp, e2, e3⟩ := y
    subst e1 e3
    have := e2 vs hq2
    rw [ev] at this
    cases this
    exact pN hr rv hp
theorem uj {K : PySem.W.Frag} {α : List Addr} {H : Hp} {a : Addr} {ds : List D} {vs : List V} (hq : Fro K H a vs) (rs : az K g α H ds vs) : Reads K g (Iel K a) (Src.snap (dN ds)).rdr α H := by
  intro α2 H2 h2 x2 hr i
  have hq2 : SqL K H2 a vs := (x2.fro _ _ hq).sq
  have rs2 := rs.ext x2
  show match some (dN ds)[i]? with | none => True | some none => _ | some (some d) => _
  rw [rf]
  cases e : ds[i]? with
  | none =>
    have : ds.length <= i := List.getElem?_eq_none_iff.mp e
    exact ⟨vs, hq2, by rw [<- rs.length]; exact this⟩
  | some d =>
    obtain ⟨v, ev, rv⟩ := rs2.get e
    refine ⟨⟨vs, v, hq2, ev⟩, fun x H' y => ?_⟩
    obtain ⟨p, v', e1, hp, e2, e3⟩ := y
    subst e1 e3
    have := e2 vs hq2
    rw [ev] at this
    cases this
    exact pN hr rv hp
theorem uD {K : PySem.W.Frag} {α : List Addr} {H : Hp} {a : Addr} {n : Nat} (ha : α[n]? = some a) : Reads K g (Iel K a) (Src.liveE n).rdr α H := by
  intro α2 H2 h2 x2 hr i
  show match (aH h2 n).map fun ds => (ds[i]?).map fun d => D.tup [.int i, d] with | none => True | some none => _ | some (some d) => _
  cases e : aH h2 n with
  | none => trivial
  | some ds =>
    obtain ⟨vs, hq', rs⟩ := hr.lst e (x2.get ha)
    have hq : SqL K H2 a vs := SqL.of hq'
    show match some ((ds[i]?).map fun d => D.tup [.int i, d]) with | none => True | some none => _ | some (some d) => _
    cases ei : ds[i]? with
    | none =>
      have : ds.length <= i := List.getElem?_eq_none_iff.mp ei
      exact ⟨vs, hq, by rw [<- rs.length]; exact this⟩
    | some d =>
      obtain ⟨v, ev, rv⟩ := rs.get ei
      refine ⟨⟨vs, v, hq, ev⟩, fun x H' y => ?_⟩
      obtain ⟨p, v', e1, hp, e2, e3⟩ := y
      subst e1 e3
      have := e2 vs hq
      rw [ev] at this
      cases this
      exact pN hr rv hp
theorem kN {elts : List Expr} {kt : Nat} {tp p pos : Pos} {e : Expr} {me : ME} (hg : Gl X "enumerate") (hm : X.mg "enumerate" = none) (he : PE X e (tM X.K g ε me)) (hs : starEach [e] X.env = [(false, eval e X.env)] := by rfl) : PI X (.Tuple elts kt tp) (.Call (.Name "enumerate" p) [e] [] pos) (tMI X.K g ε (ie me)) :=
  PI.imp (Ck hg hm he hs) fun σ H T ⟨α, env, h, s, w⟩ => tM.use s w.bind fun d1 h1 v1 H1 α1 e1 s1 r1 w1 => by
    unfold uB at w1
    cases r1 with
    | tup hq rs => exact ⟨_, rfl, .inr ⟨⟨_, SqT.of hq⟩, w1 _ H1 α1 e1 s1.heap (uu hq rs)⟩⟩
    | frl hq rs => exact ⟨_, rfl, .inl ⟨⟨_, hq.sq⟩, w1 _ H1 α1 e1 s1.heap (uj hq.fro rs)⟩⟩
    | @ref n p hp =>
      cases el : aH h1 n with
      | none => simp only [el] at w1; exact w1.elim
      | some ds =>
        simp only [el] at w1
        obtain ⟨vs, hq, _⟩ := s1.heap.lst el hp
        exact ⟨p, rfl, .inl ⟨⟨_, SqL.of hq⟩, w1 _ H1 α1 e1 s1.heap (uD hp)⟩⟩
    | _ => exact w1.elim
noncomputable def bb (lo : Int) (n : Nat) : List D := (List.range n).map fun (i : Nat) => D.int (lo + i)
noncomputable def gq : List D -> Hh -> R Src
  | [.int j], h => if j.natAbs <= 1000000 then .ok (.snap (bb 0 j.toNat)) h else .bad
  | _, _ => .bad
noncomputable def ni : List D -> Hh -> R Src
  | [.int i, .int j], h => if i.natAbs <= 1000000 /\ j.natAbs <= 1000000 then .ok (.snap (bb i (j - i).toNat)) h else .bad
  | _, _ => .bad
noncomputable def dY (f : List D -> Hh -> R Src) (a : MA) : MI := fun env h => (a env h).bind f
theorem rn {K : PySem.W.Frag} {α : List Addr} {H : Hp} {lo : Int} {n : Nat} : Reads K g (Itr lo n) (Src.snap (bb lo n)).rdr α H := by
  intro α2 H2 h2 x2 hr i
  show match some (bb lo n)[i]? with | none => True | some none => _ | some (some d) => _
  unfold bb
  rw [List.getElem?_map]
  by_cases hi : i < n
  · rw [List.getElem?_range hi]
    refine ⟨hi, fun x H' y => ?_⟩
    obtain ⟨e1, e2⟩ := y
    subst e1 e2
    exact ⟨α2, Ext.refl, hr, .int _⟩
  · rw [List.getElem?_eq_none (by simpa using hi)]
    exact Nat.le_of_not_lt hi
theorem g_ {tg a : Expr} {ma : MA} {p pos : Pos} (hg : Gl X "range") (hm : X.mg "range" = none) (ha : PA X [a] (tMA X.K g ε ma)) (hs : starEach [a] X.env = [(false, eval a X.env)] := by rfl) : PI X tg (.Call (.Name "range" p) [a] [] pos) (tMI X.K g ε (dY gq ma)) :=
  PI.imp (xF hg hm ha hs) fun σ H T ⟨α, env, h, s, w⟩ => tMA.use s w.bind fun d1 h1 v1 H1 α1 e1 s1 r1 w1 => by
    unfold gq at w1
    cases r1 with
    | nil => exact w1.elim
    | cons ra rr =>
      cases rr with
      | cons _ _ => cases ra <;> exact w1.elim
      | nil =>
        cases ra with
        | int j =>
          obtain ⟨hj, w2⟩ := WQ.e_ w1
          exact ⟨j, rfl, by omega, by omega, w2 _ H1 α1 e1 s1.heap rn⟩
        | _ => exact w1.elim
theorem nR {tg a b : Expr} {ma : MA} {p pos : Pos} (hg : Gl X "range") (hm : X.mg "range" = none) (ha : PA X [a, b] (tMA X.K g ε ma)) (hs : starEach [a, b] X.env = [(false, eval a X.env), (false, eval b X.env)] := by rfl) (hs2 : starEach [b] X.env = [(false, eval b X.env)] := by rfl) : PI X tg (.Call (.Name "range" p) [a, b] [] pos) (tMI X.K g ε (dY ni ma)) :=
  PI.imp (yl hg hm ha hs hs2) fun σ H T ⟨α, env, h, s, w⟩ => tMA.use s w.bind fun d1 h1 v1 H1 α1 e1 s1 r1 w1 => by
    unfold ni at w1
    split at w1
    · cases r1 with
      | cons ra rr =>
        cases ra
        cases rr with
        | cons rb rr =>
          cases rb
          cases rr
          obtain ⟨hj, w2⟩ := WQ.e_ w1
          exact ⟨_, _, rfl, ⟨by omega, by omega, by omega, by omega⟩, w2 _ H1 α1 e1 s1.heap rn⟩
    · exact w1.elim
noncomputable def f_ (c : MT) (b : MS) : Nat -> En -> Hh -> R Fl
  | 0, _, _ => .bad
  | k + 1, env, h => (c env h).bind fun x h1 => if x = true then (b env h1).bind fun fl h2 => match fl with
      | .nx e => f_ c b k e h2
      | .ct e => f_ c b k e h2
      | .bk e => .ok (.nx e) h2
      | .rt d => .ok (.rt d) h2
    else .ok (.nx env) h1
noncomputable def se (fuel : Nat) (c : MT) (b : MS) : MS := fun env h => f_ c b fuel env h
theorem Di {c : Expr} {body : List Stmt} {mc : MT} {mb : MS} {pos : Pos} (fuel : Nat) (hp : PassesOwn (model X.prog X.w) X.A X.env X.xe) (hc : PT X c (tMT X.K g ε mc)) (hb : PSs X body (tMS X.K g ε mb)) : PS X (.While c body [] pos) (tMS X.K g ε (se fuel mc mb)) := by
  refine PS.imp (A6 hp hc hb) fun E σ H ⟨α, env, h, s, w⟩ => ?_
  refine ⟨fun m σ H => ∃ α env h, dJ X.K g α H env σ h /\ WQ X.K g ε α H (f_ mc mb m env h) (cY X.K g α H E), ⟨fuel, α, env, h, s, w⟩, ?_⟩
  rintro m σ2 H2 ⟨α2, env2, h2, s2, w2⟩
  cases m with
  | zero => exact w2.elim
  | succ m =>
    refine tMT.use s2 (WQ.bind (show WQ X.K g ε α2 H2 ((mc env2 h2).bind _) _ from w2)) fun b h3 H3 α3 x3 s3 w3 => ?_
    cases b with
    | false => rw [if_neg Bool.false_ne_true] at w3 ⊢; exact s3.nx x3 w3
    | true =>
      rw [if_pos rfl] at w3 ⊢
      refine ⟨fun σ' H' => ∃ α env h, dJ X.K g α H' env σ' h /\ WQ X.K g ε α H' (f_ mc mb m env h) (cY X.K g α H' E), fun σ' H' z => ⟨m, Nat.lt_succ_self _, z⟩, ?_⟩
      refine tMS.use s3 (w3.ext x3).bind fun fl h5 H5 α5 x5 hr5 w5 => ?_
      have tr : Ext X.K α2 H2 α5 H5 := x3.trans x5
      cases fl with
      | nx e => exact fun σ' s' => ⟨α5, e, h5, s', (w5.ext x5).mono fun _ _ _ p => p.ext tr⟩
      | ct e => exact fun σ' s' => ⟨α5, e, h5, s', (w5.ext x5).mono fun _ _ _ p => p.ext tr⟩
      | bk e => exact fun σ' s' => (show cY X.K g α2 H2 E (.nx e) h5 from w5) H5 α5 tr hr5 σ' s'.vs
      | rt d => exact fun v rv => (show cY X.K g α2 H2 E (.rt d) h5 from w5) H5 α5 tr hr5 v rv
end
noncomputable abbrev E00 : EE := fun _ _ _ => False
noncomputable abbrev MF := List D -> Hh -> R D
noncomputable def b8 (n : Nat) (m : MS) : MF := fun ds h => (m (ds.map some ++ List.replicate (n - ds.length) none) h).bind fun fl h1 => match fl with
  | .rt d => .ok d h1
  | .nx _ => .ok .non h1
  | _ => .bad
noncomputable def spG (K : PySem.W.Frag) (g : GG) (ε : XK -> EE) (np : Nat) (m : MF) : Sp := fun vs H Q E => vs.length = np /\ ∃ α ds h, az K g α H ds vs /\ bh K g α H h /\ WQ K g (ε E) α H (m ds h) (aX K g α H Q)
noncomputable abbrev spM (K : PySem.W.Frag) (g : GG) (np : Nat) (m : MF) : Sp := spG K g (fun _ => E00) np m
theorem ye {K : PySem.W.Frag} {g : GG} {α : List Addr} {H : Hp} {N : List Str} {ds : List D} {vs : List V} (r : az K g α H ds vs) : jd K g α H (ds.map some ++ List.replicate (N.length - ds.length) none) (start N vs) := by
  have hl := r.length
  refine ⟨by simp [start, hl], fun i d h => ?_⟩
  by_cases hi : i < ds.length
  · rw [List.getElem?_append_left (by simpa using hi), List.getElem?_map] at h
    cases e : ds[i]? with
    | none => rw [e] at h; cases h
    | some d' =>
      rw [e] at h
      cases h
      obtain ⟨v, ev, rv⟩ := r.get e
      refine ⟨v, ?_, rv⟩
      unfold start
      rw [List.getElem?_append_left (by simp; omega), List.getElem?_map, ev]
      rfl
  · rw [List.getElem?_append_right (by simpa using hi), List.getElem?_replicate] at h
    split at h <;> cases h
section
variable {P : Program} {w : World} {K : PySem.W.Frag} {mg : Str -> Option Value} {base : Heap} {g : GG}
theorem dm {x qual : Str} {st : Stmt} {f : Addr} {fd : FuncData} {N ps : List Str} {k : Nat} {mb : MS} (F : Fun K x qual st f fd) (S : aQ N ps (ar st))
    (hb : ∀ (cdv : Value) (A : Around) (outer : List Env) (s : Shared) (H : Hp) (E : XK), gX k (A.deeper (envOfC qual (ar st) s.heap.objs.size f cdv)) →
      PSs (vM CX0 P w K mg base N qual (ar st) f cdv A outer s H E).nox (hZ st) (tMS K g E00 mb)) : fP P w K mg base CX0 (k + 1) f fd ps (spM K g ps.length (b8 N.length mb)) := by
  refine F.ok S (fun vs H Q E h => h.1) fun cdv A outer s H vs Q E hr h => ⟨_, hb cdv A outer s H E hr, ?_⟩
  obtain ⟨hl, α, ds, h, rs, hh, w⟩ := h
  refine tMS.use ⟨hh, ye rs⟩ w.bind fun fl h' H' α' e r kk => ?_
  cases fl with
  | nx e' => exact fun σ' s' => (show aX K g α H Q .non h' from kk) _ H' α' e r .non
  | bk e' => exact kk.elim
  | ct e' => exact kk.elim
  | rt d => exact fun v rv => (show aX K g α H Q d h' from kk) _ H' α' e r rv
end
section
variable {X : Cx} {g : GG}
theorem ax {k : Nat} {f : Addr} {fd : FuncData} {ps : List Str} {m : MF} {np : Nat} {x : Str} {p pos : Pos} {e : Expr} {es : List Expr} {mr : MA} (F : fP X.prog X.w X.K X.mg X.base CX0 k f fd ps (spM X.K g np m)) (hr : gX k X.A) (hg : Gl X x) (hm : X.mg x = some (.ref f)) (hk : PySem.W.keepIn X.K (.ref f) = true) (hb : Binds X.K fd ps [])
    (ha : PA X (e :: es) (tMA X.K g E00 mr)) (hlen : ∀ env h ds h', mr env h = .ok ds h' -> ds.length = np) (hdb : (x == ("__debug__" : Str)) = false := by decide) (he : starEach (e :: es) X.env = (false, eval e X.env) :: starEach es X.env := by rfl) (hpl : (backTo pos (starEach es X.env)).any (·.1) = false := by rfl) :
    PE X (.Call (.Name x p) (e :: es) [] pos) (tM X.K g E00 (ah m mr)) :=
  PE.imp (CZ F hr hg hm hk hb .nil GR ha hdb he hpl) fun σ H Q ⟨α, env, h, s, w⟩ => ⟨α, env, h, s, w.bind.mono fun d1 h1 eq w1 v1 H1 α1 e1 hr1 r1 => by
    show spM X.K g np m (v1 ++ []) H1 Q E0
    rw [List.append_nil]
    refine ⟨?_, α1, d1, h1, r1, hr1, w1.post e1⟩
    rw [<- r1.length]
    exact hlen env h d1 h1 eq⟩
theorem aw : ∀ env h ds h', ak env h = .ok ds h' -> ds.length = 0 := fun env h ds h' e => by cases e; rfl
theorem ai {a : ME} {r : MA} {n : Nat} (q : ∀ env h ds h', r env h = .ok ds h' -> ds.length = n) : ∀ env h ds h', aa a r env h = .ok ds h' -> ds.length = n + 1 := fun env h ds h' e => by
  unfold aa at e
  cases e1 : a env h with
  | ok d h1 =>
    rw [e1] at e
    cases e2 : r env h1 with
    | ok ds2 h2 =>
      have e3 : (R.ok (d :: ds2) h2 : R (List D)) = .ok ds h' := by simpa [R.bind, e2] using e
      cases e3
      simp [q env h1 ds2 h' e2]
    | err x h2 => simp [R.bind, e2] at e
    | bad => simp [R.bind, e2] at e
  | err x h2 => rw [e1] at e; cases e
  | bad => rw [e1] at e; cases e
end
noncomputable def iX (ix : List Nat) (env : En) (d : D) : En := some d :: ix.map fun i => (env[i]?).join
noncomputable def tt1 : MT := fun _ h => .ok true h
noncomputable def gm (rd : Rdr) (tt : MT) (te : ME) (ee : D -> En) : Nat -> Nat -> List D -> Hh -> R (List D)
  | k, i, acc, h => match rd h i with
    | none => .bad
    | some none => .ok acc h
    | some (some d) => match k with
      | 0 => .bad
      | k + 1 => (tt (ee d) h).bind fun b h1 => if b = true then (te (ee d) h1).bind fun y h2 => gm rd tt te ee k (i + 1) (acc ++ [y]) h2 else gm rd tt te ee k (i + 1) acc h1
noncomputable def cO (tt : MT) (te : ME) (ee : D -> En) : List D -> Hh -> R (List D)
  | [], h => .ok [] h
  | d :: ds, h => (tt (ee d) h).bind fun b h1 => if b = true then (te (ee d) h1).bind fun y h2 => (cO tt te ee ds h2).bind fun ys h3 => .ok (y :: ys) h3 else cO tt te ee ds h1
theorem bV {β γ δ : Type} (r : R β) (f : β -> Hh -> R γ) (k : γ -> Hh -> R δ) : (r.bind f).bind k = r.bind fun b h => (f b h).bind k := by cases r <;> rfl
theorem A5 (tt : MT) (te : ME) (ee : D -> En) (all : List D) : ∀ (ds : List D) (i : Nat) (acc : List D) (h : Hh), all.drop i = ds -> gm (Src.snap all).rdr tt te ee ds.length i acc h = (cO tt te ee ds h).bind fun ys h' => .ok (acc ++ ys) h' := by
  intro ds
  induction ds with
  | nil =>
    intro i acc h e
    have : all[i]? = none := by
      have := congrArg List.length e
      simp at this
      exact List.getElem?_eq_none (by omega)
    unfold gm cO Src.rdr
    simp [this, R.bind]
  | cons d ds ih =>
    intro i acc h e
    have h0 : all[i]? = some d := by
      have := congrArg (fun l => l[0]?) e
      simpa using this
    have h1 : all.drop (i + 1) = ds := by
      have := congrArg List.tail e
      simpa using this
    unfold gm cO
    have : (Src.snap all).rdr h i = some (some d) := by unfold Src.rdr; simp [h0]
    rw [this]
    show ((tt (ee d) h).bind _) = _
    rw [bV]
    congr 1
    funext b h2
    cases b with
    | false => rw [if_neg Bool.false_ne_true, if_neg Bool.false_ne_true]; exact ih (i + 1) acc h2 h1
    | true =>
      rw [if_pos rfl, if_pos rfl, bV]
      congr 1
      funext y h3
      rw [bV]
      have := ih (i + 1) (acc ++ [y]) h3 h1
      rw [this]
      congr 1
      funext ys h4
      show R.ok (acc ++ [y] ++ ys) h4 = R.ok (acc ++ (y :: ys)) h4
      simp
noncomputable def bP (nl : NL) (mi : MI) (ix : List Nat) (tt : MT) (te : ME) : ME := fun env h => (mi env h).bind fun sr h1 => if sr.fuel h1 <= 1000000 then
  (match sr with
    | .snap ds => cO tt te (iX ix env) ds h1
    | .live n => gm (Src.live n).rdr tt te (iX ix env) ((aH h1 n).getD []).length 0 [] h1
    | .liveE n => gm (Src.liveE n).rdr tt te (iX ix env) ((aH h1 n).getD []).length 0 [] h1).bind nl else .bad
theorem uY {nl : NL} {mi : MI} {ix : List Nat} {tt : MT} {te : ME} {env : En} {h : Hh} : bP nl mi ix tt te env h = (mi env h).bind fun sr h1 => if sr.fuel h1 <= 1000000 then (gm sr.rdr tt te (iX ix env) (sr.fuel h1) 0 [] h1).bind nl else .bad := by
  unfold bP
  congr 1
  funext sr h1
  cases sr with
  | snap ds =>
    have := A5 tt te (iX ix env) ds ds 0 [] h1 rfl
    simp only [List.nil_append] at this
    have e : (Src.snap ds).fuel h1 = ds.length := rfl
    rw [e, this, bV]
    rfl
  | live n => rfl
  | liveE n => rfl
theorem xk {K : PySem.W.Frag} {g : GG} {α : List Addr} {H : Hp} {env : En} {σ : St} {ix : List Nat} {d : D} {v : V} (s : jd K g α H env σ) (r : aU K g α H d v) : jd K g α H (iX ix env d) ((fA ix σ).set 0 (some v)) := by
  refine ⟨by simp [iX, fA], fun i e h => ?_⟩
  cases i with
  | zero =>
    have : d = e := by simpa [iX] using h
    subst this
    exact ⟨v, by simp [fA], r⟩
  | succ i =>
    have h' : (ix.map fun i => (env[i]?).join)[i]? = some (some e) := by simpa [iX] using h
    rw [List.getElem?_map] at h'
    cases ei : ix[i]? with
    | none => rw [ei] at h'; cases h'
    | some j =>
      rw [ei] at h'
      have h2 : (env[j]?).join = some e := by simpa using h'
      cases ej : env[j]? with
      | none => rw [ej] at h2; cases h2
      | some oe =>
        rw [ej] at h2
        have h3 : oe = some e := by simpa using h2
        subst h3
        obtain ⟨u, eu, ru⟩ := s.vars j e ej
        refine ⟨u, ?_, ru⟩
        simp only [fA, List.set_cons_zero, List.getElem?_cons_succ, List.getElem?_map, ei, Option.map_some, eu]
        rfl
section
variable {X : Cx} {g : GG}
theorem jg : PTs X [] (tMT X.K g E00 tt1) := fun pins s σ H Q I ⟨α, env, h, s', w⟩ => De pins s σ H Q I (w H α Ext.refl s'.heap)
theorem mj {c : Expr} {mt : MT} (h : PT X c (tMT X.K g E00 mt)) : PTs X [c] (tMT X.K g E00 mt) := Dj h
theorem oM {K : PySem.W.Frag} {nl : NL} [iN nl] {mi : MI} {tt : MT} {te : ME} {ix : List Nat} {σ : St} {H : Hp} {Q R : VK} (hR : ∀ v H, i4 Q v H -> R v H) (t : tM K g E00 (bP nl mi ix tt te) σ H Q) : zI (tMI K g E00 mi) ix (tMT K g E00 tt) (tM K g E00 te) σ H R := by
  obtain ⟨α, env, h, s, w⟩ := t
  rw [uY] at w
  refine ⟨α, env, h, s, w.bind.mono fun sr h1 _ w1 J H1 α1 e1 hr1 rd => fun acc hacc => ?_⟩
  obtain ⟨hf, w1⟩ := WQ.e_ w1
  have s1 := s.ext e1 hr1
  refine ⟨fun i m ys H => ∃ α h as, Ext K α1 H1 α H /\ bh K g α H h /\ az K g α H as ys /\ H acc = some (.lst ys) /\ acc ∉ α /\ as.length + m <= 1000000 ∧
    WQ K g E00 α1 H1 ((gm sr.rdr tt te (iX ix env) m i as h).bind nl) (aX K g α1 H1 Q),
    ⟨sr.fuel h1, α1, h1, [], Ext.fresh hacc, hr1.grow hacc, .nil, aY, hr1.free hacc, by simpa using hf, w1.post e1⟩, ?_⟩
  rintro i m ys H2 ⟨α2, h2, as, x2, hr2, ra, ha, hna, hm, w2⟩
  have q := rd α2 H2 h2 x2 hr2 i
  unfold gm at w2
  cases e : sr.rdr h2 i with
  | none => rw [e] at w2; exact w2.elim
  | some od =>
    rw [e] at w2 q
    cases od with
    | none =>
      refine .inl ⟨q, ?_⟩
      exact hR _ _ <| iN.at' (show WQ K g E00 α1 H1 (nl as h2) _ from w2) (fun _ _ z => z) x2 hr2 ra ha hna hacc
    | some d =>
      cases m with
      | zero => exact w2.elim
      | succ m =>
        rw [bV] at w2
        have w3 := WQ.bind (show WQ K g E00 α1 H1 ((tt (iX ix env d) h2).bind _) _ from w2)
        refine .inr ⟨q.1, fun x H3 y => ?_⟩
        obtain ⟨α3, x3, hr3, rx⟩ := q.2 x H3 y
        have ha3 := x3.keep _ _ ha hna
        have hna3 : acc ∉ α3 := fun z => by have := x3.new _ z hna; rw [ha] at this; cases this
        have s3 : dJ K g α3 H3 (iX ix env d) ((fA ix σ).set 0 (some x)) h2 := ⟨hr3, xk (s1.vs.ext (x2.trans x3)) rx⟩
        refine tMT.use s3 ((w3.ext x2).ext x3) fun b h4 H4 α4 x4 s4 w4 => ?_
        have ha4 := x4.keep _ _ ha3 hna3
        have hna4 : acc ∉ α4 := fun z => by have := x4.new _ z hna3; rw [ha3] at this; cases this
        cases b with
        | false =>
          rw [if_neg Bool.false_ne_true] at w4 ⊢
          exact ⟨m, Nat.lt_succ_self _, α4, h4, as, x2.trans (x3.trans x4), s4.heap, ra.ext (x3.trans x4), ha4, hna4, by omega, w4⟩
        | true =>
          rw [if_pos rfl] at w4 ⊢
          rw [bV] at w4
          refine tM.use s4 (((WQ.bind w4).ext x2).ext (x3.trans x4)) fun y h5 v5 H5 α5 x5 s5 r5 w5 => ?_
          have ha5 := x5.keep _ _ ha4 hna4
          have hna5 : acc ∉ α5 := fun z => by have := x5.new _ z hna4; rw [ha4] at this; cases this
          have soft : Bh H5 acc := .inr ⟨_, ha5, fun _ z => (nomatch z), fun _ _ z => nomatch z⟩
          have x6 : Ex0 K α5 H5 α5 (upd H5 acc (.lst (ys ++ [v5]))) := Ex0.upd soft
          have tr := x2.trans (x3.trans (x4.trans x5))
          refine ⟨ha5, ?_, m, Nat.lt_succ_self _, α5, h5, as ++ [y], ⟨tr.toEx0.trans x6, fun p o z n => ?_, tr.new⟩, s5.heap.off soft hna5, ((ra.ext (x3.trans (x4.trans x5))).append (.cons r5 .nil)).ex0 x6, aY, hna5, by rw [List.length_append]; simp; omega, w5⟩
          · rw [<- ra.length, sizeLine_eq]; omega
          · rw [aW (cE z hacc)]; exact tr.keep p o z n
noncomputable def unp {β : Type} (m : En -> Hh -> R β) : En -> Hh -> R β := fun env h => match env with
  | some (.tup [x, y]) :: r => m (some x :: some y :: r) h
  | _ => .bad
theorem FK {K : PySem.W.Frag} {g : GG} {ε : EE} {α α' : List Addr} {H H' : Hp} {β : Type} {m : En -> Hh -> R β} {d : D} {x : V} {r : En} {h : Hh} {k : β -> Hh -> Prop} (rx : aU K g α H d x) (w : WQ K g ε α' H' (unp m (some d :: r) h) k) :
    ∃ a b p va vb, d = .tup [a, b] /\ x = .ref p /\ H p = some (.tup [va, vb]) /\ aU K g α H a va /\ aU K g α H b vb /\ WQ K g ε α' H' (m (some a :: some b :: r) h) k := by
  cases rx with
  | tup hp rs =>
    cases rs with
    | nil => exact w.elim
    | cons ra rr =>
      cases rr with
      | nil => exact w.elim
      | cons rb rr =>
        cases rr with
        | nil => exact ⟨_, _, _, _, _, rfl, rfl, hp, ra, rb, w⟩
        | cons _ _ => exact w.elim
  | _ => exact w.elim
theorem AW {K : PySem.W.Frag} {g : GG} {α : List Addr} {H : Hp} {env : En} {σ : St} {ix : List Nat} {d e : D} {v u : V} (s : jd K g α H env σ) (r : aU K g α H d v) (q : aU K g α H e u) : jd K g α H (some d :: some e :: ix.map fun i => (env[i]?).join) (some v :: some u :: ix.map fun i => (σ[i]?).join) := by
  have z := xk (ix := ix) s q
  have e1 : (fA ix σ).set 0 (some u) = some u :: ix.map fun i => (σ[i]?).join := rfl
  rw [e1] at z
  refine ⟨by simp, fun i x h => ?_⟩
  cases i with
  | zero => have : d = x := by simpa using h
            subst this; exact ⟨v, rfl, r⟩
  | succ i =>
    obtain ⟨y, ey, ry⟩ := z.vars i x (by simpa [iX] using h)
    exact ⟨y, by simpa using ey, ry⟩
theorem xP {K : PySem.W.Frag} {nl : NL} [iN nl] {mi : MI} {tt : MT} {te : ME} {ix : List Nat} {σ : St} {H : Hp} {Q R : VK} (hR : ∀ v H, i4 Q v H -> R v H) (t : tM K g E00 (bP nl mi ix (unp tt) (unp te)) σ H Q) : o7 (tMI K g E00 mi) 2 ix (Aw K 2 (lD (eA 0) (lD (eA 1) zy))) (tMT K g E00 tt) (tM K g E00 te) σ H R := by
  obtain ⟨α, env, h, s, w⟩ := t
  rw [uY] at w
  refine ⟨α, env, h, s, w.bind.mono fun sr h1 _ w1 J H1 α1 e1 hr1 rd => fun acc hacc => ?_⟩
  obtain ⟨hf, w1⟩ := WQ.e_ w1
  have s1 := s.ext e1 hr1
  refine ⟨fun i m ys H => ∃ α h as, Ext K α1 H1 α H /\ bh K g α H h /\ az K g α H as ys /\ H acc = some (.lst ys) /\ acc ∉ α /\ as.length + m <= 1000000 ∧
    WQ K g E00 α1 H1 ((gm sr.rdr (unp tt) (unp te) (iX ix env) m i as h).bind nl) (aX K g α1 H1 Q),
    ⟨sr.fuel h1, α1, h1, [], Ext.fresh hacc, hr1.grow hacc, .nil, aY, hr1.free hacc, by simpa using hf, w1.post e1⟩, ?_⟩
  rintro i m ys H2 ⟨α2, h2, as, x2, hr2, ra, ha, hna, hm, w2⟩
  have q := rd α2 H2 h2 x2 hr2 i
  unfold gm at w2
  cases e : sr.rdr h2 i with
  | none => rw [e] at w2; exact w2.elim
  | some od =>
    rw [e] at w2 q
    cases od with
    | none =>
      refine .inl ⟨q, ?_⟩
      exact hR _ _ <| iN.at' (show WQ K g E00 α1 H1 (nl as h2) _ from w2) (fun _ _ z => z) x2 hr2 ra ha hna hacc
    | some d =>
      cases m with
      | zero => exact w2.elim
      | succ m =>
        rw [bV] at w2
        have w3 := WQ.bind (show WQ K g E00 α1 H1 ((unp tt (iX ix env d) h2).bind _) _ from w2)
        refine .inr ⟨q.1, fun σ0 x H3 ⟨ts, tl, e0⟩ y => ?_⟩
        obtain ⟨α3, x3, hr3, rx⟩ := q.2 x H3 y
        have ha3 := x3.keep _ _ ha hna
        have hna3 : acc ∉ α3 := fun z => by have := x3.new _ z hna; rw [ha] at this; cases this
        obtain ⟨da, db, pp, va, vb, rfl, rfl, hq, rda, rdb, w3'⟩ := FK rx ((w3.ext x2).ext x3)
        obtain ⟨t0, t1, rfl⟩ : ∃ t0 t1, ts = [t0, t1] := by
          match ts, tl with
          | [t0, t1], _ => exact ⟨t0, t1, rfl⟩
        subst e0
        refine ⟨_, _, rfl, SqT.of hq, rfl, _, _, rfl, _, _, rfl, rfl, ⟨[some va, some vb], rfl, rfl⟩, ?_⟩
        have s3 : dJ K g α3 H3 (some da :: some db :: ix.map fun i => (env[i]?).join) (some va :: some vb :: ix.map fun i => (σ[i]?).join) h2 := ⟨hr3, AW (s1.vs.ext (x2.trans x3)) rda rdb⟩
        refine tMT.use s3 w3' fun b h4 H4 α4 x4 s4 w4 => ?_
        have ha4 := x4.keep _ _ ha3 hna3
        have hna4 : acc ∉ α4 := fun z => by have := x4.new _ z hna3; rw [ha3] at this; cases this
        cases b with
        | false =>
          rw [if_neg Bool.false_ne_true] at w4 ⊢
          exact ⟨m, Nat.lt_succ_self _, α4, h4, as, x2.trans (x3.trans x4), s4.heap, ra.ext (x3.trans x4), ha4, hna4, by omega, w4⟩
        | true =>
          rw [if_pos rfl] at w4 ⊢
          rw [bV] at w4
          refine tM.use s4 (((WQ.bind w4).ext x2).ext (x3.trans x4)) fun y h5 v5 H5 α5 x5 s5 r5 w5 => ?_
          have ha5 := x5.keep _ _ ha4 hna4
          have hna5 : acc ∉ α5 := fun z => by have := x5.new _ z hna4; rw [ha4] at this; cases this
          have soft : Bh H5 acc := .inr ⟨_, ha5, fun _ z => (nomatch z), fun _ _ z => nomatch z⟩
          have x6 : Ex0 K α5 H5 α5 (upd H5 acc (.lst (ys ++ [v5]))) := Ex0.upd soft
          have tr := x2.trans (x3.trans (x4.trans x5))
          refine ⟨ha5, ?_, m, Nat.lt_succ_self _, α5, h5, as ++ [y], ⟨tr.toEx0.trans x6, fun p o z n => ?_, tr.new⟩, s5.heap.off soft hna5, ((ra.ext (x3.trans (x4.trans x5))).append (.cons r5 .nil)).ex0 x6, aY, hna5, by rw [List.length_append]; simp; omega, w5⟩
          · rw [<- ra.length, sizeLine_eq]; omega
          · rw [aW (cE z hacc)]; exact tr.keep p o z n
theorem pg2 {X : Cx} {x y : Str} {px py pt : Pos} {kt : Nat} (hc : X.calm = true) (hn : X.N.Nodup) (h0 : X.N[0]? = some x) (h1 : X.N[1]? = some y) (hx : Loc X.env.scope x /\ X.env.scope.names.lookup x = some .local) (hy : Loc X.env.scope y /\ X.env.scope.names.lookup y = some .local) :
    PG X (.Tuple [.Name x px, .Name y py] kt pt) (Aw X.K 2 (lD (eA 0) (lD (eA 1) zy))) := mD hc (cZ (bw hn h0 hx.1 (.inr hx.2)) (cZ (bw hn h1 hy.1 (.inr hy.2)) jK))
theorem u9 {nl : NL} [iN nl] {elt iter : Expr} {x y : Str} {px py pt : Pos} {kt : Nat} {ifs : List Expr} {scope osc : Scope} {pos : Pos} {mi : MI} {tt : MT} {te : ME} (ix : List Nat) (N' : List Str)
    (hxe : X.xe = fun _ _ => False) (hc : X.calm = true) (ho : X.env.scope = osc) (hN : N' = [x, y] ++ ix.map fun i => (X.N[i]?).getD ("" : Str)) (hnd : N'.Nodup)
    (hall : (∀ y ∈ scope.names, y.2 = .free -> osc.names.lookup y.1 = some .cell) /\ (∀ y ∈ scope.names, y.2 ≠ .cell) /\ scope.kind = .function /\ (∀ y ∈ scope.names, y.2 = .local -> scope.names.lookup y.1 = some .local) /\ (∀ z ∈ N'.drop [x, y].length, scope.names.lookup z = some .free))
    (hi : PI X (.Tuple [.Name x px, .Name y py] kt pt) iter (tMI X.K g E00 mi))
    (hx : ∀ cl C ay aB fp, Loc (bf X scope cl C ay aB fp N').env.scope x /\ (bf X scope cl C ay aB fp N').env.scope.names.lookup x = some .local) (hy : ∀ cl C ay aB fp, Loc (bf X scope cl C ay aB fp N').env.scope y /\ (bf X scope cl C ay aB fp N').env.scope.names.lookup y = some .local)
    (ht : ∀ cl C ay aB fp, PTs (bf X scope cl C ay aB fp N') ifs (tMT X.K g E00 tt))
    (he : ∀ cl C ay aB fp, PE (bf X scope cl C ay aB fp N') elt (tM X.K g E00 te))
    (hs : ∀ x, foldedSetIterable iter X.env x = pure x := by intro _; rfl) :
    PE X (.ListComp elt [⟨.Tuple [.Name x px, .Name y py] kt pt, iter, ifs, 0⟩] scope pos) (tM X.K g E00 (bP nl mi ix (unp tt) (unp te))) := by
  refine PE.imp (PE.frz (ur (tgr := Aw X.K 2 (lD (eA 0) (lD (eA 1) zy))) ix [x, y] N' hxe hc ho hN hnd hall hi (fun cl C ay aB fp => pg2 (X := bf X scope cl C ay aB fp N') hc hnd (show N'[0]? = some x by rw [hN]; rfl) (show N'[1]? = some y by rw [hN]; rfl) (hx cl C ay aB fp) (hy cl C ay aB fp)) ht he hs)) fun σ H Q t => ?_
  exact xP (fun _ _ z => z) t
end
noncomputable def sml (i : Int) : Bool := decide (i.natAbs < 2 ^ 1900)
theorem pK {i : Int} (h : sml i = true) : Builtin.Int.intBits i <= 1900 := by
  have h' : i.natAbs < 2 ^ 1900 := of_decide_eq_true h
  unfold Builtin.Int.intBits
  split
  · omega
  · rename_i z
    have z' : i.natAbs ≠ 0 := by
      intro q
      apply z
      have : i = 0 := Int.natAbs_eq_zero.mp q
      rw [this]; rfl
    have := (Nat.log2_lt z').mpr h'
    omega
theorem C6 {i : Int} (h : sml i = true) : i.natAbs.log2 < 1900 := by
  have h' : i.natAbs < 2 ^ 1900 := of_decide_eq_true h
  by_cases z : i.natAbs = 0
  · rw [z]; decide
  · exact (Nat.log2_lt z).mpr h'
theorem kD {i : Int} (h : i.natAbs <= 10 ^ 560) : sml i = true := by
  refine decide_eq_true (Nat.lt_of_le_of_lt h (by decide +kernel))
section
variable {X : Cx} {K : PySem.W.Frag} {g : GG} {ε : EE}
theorem OpR.or {f : Value -> Value -> Sem Value} {r r' : R2} (h : OpR X f r) (h' : OpR X f r') : OpR X f (fun x y H Q => r x y H Q \/ r' x y H Q) := fun pins s σ H x y v u Q I rx ry q => q.elim (h pins s σ H x y v u Q I rx ry) (h' pins s σ H x y v u Q I rx ry)
noncomputable def j8 (d : D) (h : Hh) : Option (List D) := match d with
  | .frl ds => some ds
  | .ref n => aH h n
  | _ => none
theorem tf {α : List Addr} {H : Hp} {h : Hh} {d : D} {x : V} {ds : List D} (r : bh K g α H h) (rd : aU K g α H d x) (e : j8 d h = some ds) : ∃ p vs, x = .ref p /\ Rd H p (.lst vs) /\ az K g α H ds vs := by
  unfold j8 at e
  cases rd with
  | frl hq rs => cases e; exact ⟨_, _, rfl, hq.rd, rs⟩
  | ref hp => obtain ⟨vs, hv, rs⟩ := r.lst e hp; exact ⟨_, vs, rfl, .inl hv, rs⟩
  | _ => cases e
noncomputable def DW : R2 := fun x y H Q => ∃ l b xs zs, x = .ref l /\ y = .ref b /\ Rd H l (.lst xs) /\ Rd H b (.lst zs) /\ xs.length + zs.length <= sizeLine /\ ∀ p, H p = none -> Q (.ref p) (upd H p (.lst (xs ++ zs)))
theorem Es {X : Cx} {pins : List (Addr × Obj)} {σ : St} {H : Hp} {s : Shared} {l : Addr} {xs : List V} (I : Inv X pins σ H s) (h : Rd H l (.lst xs)) : ∃ (its : List Value) (n : Nat), xs.length <= sizeLine /\ Vals xs its /\ xs.length = its.length /\ s.heap.get? l = some { cls := .type "list", data := .seq its.toArray n } := by
  obtain ⟨z, its, n, r, e⟩ := h.ok I.hok
  exact ⟨its, n, z, r, r.length, e⟩
theorem BQ : OpR X (binaryOp .Add) DW := by
  intro pins s σ H x y v u Q I rx ry h
  obtain ⟨l, b, xs, zs, rfl, rfl, hH, hB, hz, q⟩ := h
  cases rx
  cases ry
  obtain ⟨its, n, z, r, hl, e⟩ := Es I hH
  obtain ⟨its2, n2, z2, r2, hl2, e2⟩ := Es I hB
  refine PySem.P.add_list e e2 ?_ (by rw [List.size_toArray, List.size_toArray]; omega)
  have ea : its.toArray ++ its2.toArray = (its ++ its2).toArray := by simp
  rw [ea]
  exact ⟨.ref _, _, I.zp (t' := s.toks) (r.append r2) (by rw [List.length_append]; omega), rfl, q _ I.fresh⟩
noncomputable def bB (nl : NL) : D -> D -> Hh -> R D := fun x y h => match x, y with
  | .int i, .int j => .ok (.int (i + j)) h
  | .tup a, .tup b => if a.length + b.length <= 1000000 then .ok (.tup (a ++ b)) h else .bad
  | .str a, .str b => if a.length + b.length <= 1000000 then .ok (.str (a ++ b)) h else .bad
  | x, y => match j8 x h, j8 y h with
    | some a, some b => if a.length + b.length <= 1000000 then nl (a ++ b) h else .bad
    | _, _ => .bad
noncomputable abbrev zU (K : PySem.W.Frag) : R2 := fun x y H Q => (rI0 fun i j => .int (i + j)) x y H Q \/ (DV K x y H Q \/ y_ K x y H Q) \/ DW x y H Q \/ ∃ i j, x = .str i /\ y = .str j /\ i.length + j.length <= sizeLine /\ Q (.str (i ++ j)) H
theorem bK : OpR X (binaryOp .Add) (fun x y H Q => zU X.K x y H (i4 Q)) := OpR.frz (OpR.or E6 (OpR.or (OpR.or Cm Ba) (OpR.or BQ wg)))
theorem aX.yj {α : List Addr} {H : Hp} {h : Hh} {Q : VK} {d : D} {v : V} (p : aX K g α H Q d h) (r : bh K g α H h) (rd : aU K g α H d v) : i4 Q v H := .inl (p.now r rd)
theorem bJ {nl : NL} [iN nl] : eE K g ε (bB nl) (fun x y H Q => zU K x y H (i4 Q)) := by
  intro α H h a b x y Q r ra rb w
  have gen : ∀ {a b : D} {x y : V}, aU K g α H a x -> aU K g α H b y -> WQ K g ε α H (match j8 a h, j8 b h with
    | some a, some b => if a.length + b.length <= 1000000 then nl (a ++ b) h else .bad
    | _, _ => .bad) (aX K g α H Q) -> zU K x y H (i4 Q) := by
    intro a b x y ra rb w
    cases e1 : j8 a h with
    | none => simp only [e1] at w; exact w.elim
    | some da =>
      cases e2 : j8 b h with
      | none => simp only [e1, e2] at w; exact w.elim
      | some db =>
        simp only [e1, e2] at w
        obtain ⟨p, va, rfl, hva, rsa⟩ := tf r ra e1
        obtain ⟨q, vb, rfl, hvb, rsb⟩ := tf r rb e2
        obtain ⟨hl, w⟩ := WQ.e_ w
        refine .inr (.inr (.inl ⟨p, q, va, vb, rfl, rfl, hva, hvb, ia (by rw [<- rsa.length, <- rsb.length]; exact hl), fun l hl' => ?_⟩))
        exact NL.post w r (rsa.append rsb) hl'
  unfold bB at w
  split at w
  · cases ra
    cases rb
    exact .inl ⟨_, _, rfl, rfl, aX.yj w r (.int _)⟩
  · cases ra with
    | @tup da pa va ha rsa =>
      cases rb with
      | @tup db pb vb hb rsb =>
        obtain ⟨hl, w⟩ := WQ.e_ w
        refine .inr (.inl ?_)
        cases va with
        | nil =>
          cases rsa
          exact .inr ⟨_, _, _, rfl, rfl, SqT.of ha, SqT.of hb, aX.yj w r (.tup hb rsb)⟩
        | cons z zs =>
          refine .inl ⟨_, _, _, _, rfl, rfl, SqT.of ha, SqT.of hb, by simp, ia (by rw [<- rsa.length, <- rsb.length]; exact hl), fun e => ?_, fun _ p hp => .inl (aX.tup w r (rsa.append rsb) hp)⟩
          subst e
          cases rsb
          refine aX.yj w r (.tup ha ?_)
          rw [List.append_nil]; exact rsa
  · cases ra
    cases rb
    obtain ⟨hl, w⟩ := WQ.e_ w
    exact .inr (.inr (.inr ⟨_, _, rfl, rfl, ia hl, aX.yj w r (.str _)⟩))
  · exact gen ra rb w
noncomputable def fq : D -> D -> Hh -> R D
  | .int i, .int j, h => .ok (.int (i - j)) h
  | _, _, _ => .bad
theorem dM : eE K g ε fq (rI0 fun i j => .int (i - j)) := by
  intro α H h a b x y Q r ra rb w
  unfold fq at w
  cases ra with
  | int i =>
    cases rb with
    | int j => exact ⟨i, j, rfl, rfl, aX.now w r (.int _)⟩
    | _ => exact w.elim
  | _ => exact w.elim
noncomputable def DP : R2 := fun x y H Q => ∃ l k xs, x = .ref l /\ y = .int k /\ Rd H l (.lst xs) /\ -(2 ^ 63) <= k /\ k < 2 ^ 63 /\ xs.length * k.toNat <= sizeLine ∧
  ∀ p, H p = none -> Q (.ref p) (upd H p (.lst (List.replicate k.toNat xs).flatten))
theorem Cw : OpR X (binaryOp .Mult) DP := by
  intro pins s σ H x y v u Q I rx ry h
  obtain ⟨l, k, xs, rfl, rfl, hH, h1, h2, hz, q⟩ := h
  cases rx
  obtain ⟨t, rfl⟩ := ry
  obtain ⟨its, n, z, r, hl, e⟩ := Es I hH
  have hlen : its.toArray.size * k.toNat <= sizeLine := by rw [List.size_toArray, <- hl]; exact hz
  have hcap : ¬ its.toArray.size * k.toNat > (2 ^ 63 - 1) / 8 := by
    have : (sizeLine : Nat) <= (2 ^ 63 - 1) / 8 := by decide
    omega
  have hfit : ¬ (!Builtin.List.listFitsIndex k) = true := by
    rw [fitsIndex_both h1 h2]
    exact Bool.false_ne_true
  have hlong : ¬ Builtin.List.listTooLong (its.toArray.size * k.toNat) = true := by
    rw [Ax hlen]
    exact Bool.false_ne_true
  have hnew : List.foldl (fun x1 x2 => x1 ++ x2) #[] (List.replicate (if its.toArray.isEmpty = true then 0 else k.toNat) its.toArray) = (List.replicate k.toNat its).flatten.toArray := by
    have f0 : ∀ m : Nat, List.foldl (fun x1 x2 => x1 ++ x2) #[] (List.replicate m its.toArray) = (List.replicate m its).flatten.toArray := fun m => by
      have := foldl_rep its m []
      rw [List.nil_append] at this
      exact this
    rw [f0]
    cases its with
    | nil => simp
    | cons a r' => rw [if_neg (by simp)]
  refine wpAny_binaryOp_repeat_ref (T := "list") (U := "int") (by decide) ⟨_, e, rfl⟩ (fun s' => typeIs_int s' k t) noFill_list_mul F.fills_int_mul F.slot_int_rmul repeat_list F.slot_int_index.lookup
    (call_meets F.slot_int_rmul (typeIs_int s k t) F.entry_int_rmul (F.args_int_rmul_2 _ _) (int___rmul___int_list k t l its.toArray n)
      ⟨e, rfl, ⟨_, e, rfl⟩, call_meets F.slot_list_mul ⟨_, e, rfl⟩ F.entry_list_mul (F.args_list_mul_2 _ _) (AutoListH.list___mul___list_int_3 l its.toArray n k t hfit hcap hlong) ⟨e, ?_⟩⟩)
  rw [hnew]
  exact ⟨.ref _, _, I.zp (t' := s.toks) (r.rep k.toNat) (by rw [len_rep, Nat.mul_comm]; exact hz), rfl, q _ I.fresh⟩
noncomputable def f7 (nl : NL) : D -> D -> Hh -> R D := fun x y h => match x, y with
  | .int i, .int j => if sml i = true /\ sml j = true then .ok (.int (i * j)) h else .bad
  | x, .int k => match j8 x h with
    | some ds => if k.natAbs <= 1000000 /\ ds.length * k.toNat <= 1000000 then nl (List.replicate k.toNat ds).flatten h else .bad
    | none => .bad
  | _, _ => .bad
theorem BC : OpR X (binaryOp .Mult) (rI (fun i j => sml i = true /\ sml j = true) fun i j => .int (i * j)) := opI fun _ _ _ _ _ _ _ hc q => mul_int q (IntMulOk.of_bits (Nat.le_trans (pK hc.1) (by decide)) (Nat.le_trans (pK hc.2) (by decide)))
noncomputable abbrev Bc : R2 := fun x y H Q => (rI (fun i j => sml i = true /\ sml j = true) fun i j => .int (i * j)) x y H Q \/ DP x y H Q
theorem eW : OpR X (binaryOp .Mult) (fun x y H Q => Bc x y H (i4 Q)) := OpR.frz (OpR.or BC Cw)
theorem eM {nl : NL} [iN nl] : eE K g ε (f7 nl) (fun x y H Q => Bc x y H (i4 Q)) := by
  intro α H h a b x y Q r ra rb w
  have gen : ∀ {a : D} {k : Int} {x : V}, aU K g α H a x -> WQ K g ε α H (match j8 a h with
    | some ds => if k.natAbs <= 1000000 /\ ds.length * k.toNat <= 1000000 then nl (List.replicate k.toNat ds).flatten h else .bad
    | none => .bad) (aX K g α H Q) -> Bc x (.int k) H (i4 Q) := by
    intro a k x ra w
    cases e1 : j8 a h with
    | none => simp only [e1] at w; exact w.elim
    | some ds =>
      simp only [e1] at w
      obtain ⟨hl, w⟩ := WQ.e_ w
      obtain ⟨p, vs, rfl, hv, rs⟩ := tf r ra e1
      refine .inr ⟨p, k, vs, rfl, rfl, hv, by omega, by omega, ia (by rw [<- rs.length]; exact hl.2), fun l hl' => ?_⟩
      exact NL.post w r (rs.flat k.toNat) hl'
  unfold f7 at w
  split at w
  · cases ra
    cases rb
    obtain ⟨hc, w⟩ := WQ.e_ w
    exact .inl ⟨_, _, rfl, rfl, hc, aX.yj w r (.int _)⟩
  · cases rb
    exact gen ra w
  · exact w.elim
noncomputable def Aj : D -> D -> Hh -> R D
  | .int i, .int j, h => if 0 < j /\ sml j = true then .ok (.int (i / j)) h else .bad
  | _, _, _ => .bad
theorem uq : OpR X (binaryOp .FloorDiv) (rI (fun i j => 0 < j /\ sml j = true) fun i j => .int (i / j)) := opI fun i j _ _ _ _ _ hc q => by
  have e : i.fdiv j = i / j := Int.fdiv_eq_ediv_of_nonneg _ (by omega)
  refine floordiv_int (by omega) ?_ (.inl (PyProof.noPylong_of_log2 (Nat.lt_trans (C6 hc.2) (by decide))))
  rw [e]; exact q
theorem AQ : eE K g ε Aj (rI (fun i j => 0 < j /\ sml j = true) fun i j => .int (i / j)) := by
  intro α H h a b x y Q r ra rb w
  unfold Aj at w
  cases ra with
  | int i =>
    cases rb with
    | int j =>
      obtain ⟨hc, w⟩ := WQ.e_ w
      exact ⟨i, j, rfl, rfl, hc, aX.now w r (.int _)⟩
    | _ => exact w.elim
  | _ => exact w.elim
noncomputable def vd : D -> D -> Hh -> R D
  | .int i, .int j, h => if 0 < j then .ok (.int (i % j)) h else .bad
  | _, _, _ => .bad
theorem oj : eE K g ε vd (rI (fun _ j => 0 < j) fun i j => .int (i % j)) := by
  intro α H h a b x y Q r ra rb w
  unfold vd at w
  cases ra with
  | int i =>
    cases rb with
    | int j =>
      obtain ⟨hc, w⟩ := WQ.e_ w
      exact ⟨i, j, rfl, rfl, hc, aX.now w r (.int _)⟩
    | _ => exact w.elim
  | _ => exact w.elim
noncomputable def Cv : D -> D -> Hh -> R D
  | .int i, .int j, h => if 0 <= j /\ j.natAbs <= 1000 /\ sml i = true then .ok (.int (i ^ j.toNat)) h else .bad
  | _, _, _ => .bad
theorem Df : OpR X (binaryOp .Pow) (rI (fun i j => 0 <= j /\ j.natAbs <= 1000 /\ sml i = true) fun i j => .int (i ^ j.toNat)) := opI fun i j _ _ _ _ _ hc q => pow_int hc.1 (by
  have := pK hc.2.2
  have h1 : ((Builtin.Int.intBits i : Nat) : Int) <= 1900 := by exact_mod_cast this
  calc ((Builtin.Int.intBits i : Nat) : Int) * j <= 1900 * j := Int.mul_le_mul_of_nonneg_right h1 hc.1
    _ <= 1900 * 1000 := Int.mul_le_mul_of_nonneg_left (show j <= 1000 by have := hc.2.1; omega) (by decide)
    _ <= 2 ^ 27 := by decide) q
theorem Eg : eE K g ε Cv (rI (fun i j => 0 <= j /\ j.natAbs <= 1000 /\ sml i = true) fun i j => .int (i ^ j.toNat)) := by
  intro α H h a b x y Q r ra rb w
  unfold Cv at w
  cases ra with
  | int i =>
    cases rb with
    | int j =>
      obtain ⟨hc, w⟩ := WQ.e_ w
      exact ⟨i, j, rfl, rfl, hc, aX.now w r (.int _)⟩
    | _ => exact w.elim
  | _ => exact w.elim
noncomputable def jQ : D -> Hh -> R D
  | .int i, h => .ok (.int (-i)) h
  | _, _ => .bad
theorem km : F2 K g ε jQ (rU fun i => .int (-i)) := by
  intro α H h a x Q r ra w
  unfold jQ at w
  cases ra with
  | int i => exact ⟨i, rfl, aX.now w r (.int _)⟩
  | _ => exact w.elim
noncomputable def yE (p : Int -> Int -> Bool) : D -> D -> Hh -> R D
  | .int i, .int j, h => .ok (.bl (p i j)) h
  | _, _, _ => .bad
noncomputable def ltI : Int -> Int -> Bool
  | .ofNat a, .ofNat b => Nat.blt a b
  | .ofNat _, .negSucc _ => false
  | .negSucc _, .ofNat _ => true
  | .negSucc a, .negSucc b => Nat.blt b a
theorem oP : ltI = fun i j => decide (i < j) := by
  funext i j
  cases i with
  | ofNat a =>
    cases j with
    | ofNat b =>
      show Nat.blt a b = _
      rw [Bool.eq_iff_iff, Nat.blt_eq, decide_eq_true_iff]
      exact Int.ofNat_lt.symm
    | negSucc b => exact (decide_eq_false (by have : Int.ofNat a = (a : Int) := rfl; omega)).symm
  | negSucc a =>
    cases j with
    | ofNat b => exact (decide_eq_true (by have : Int.ofNat b = (b : Int) := rfl; omega)).symm
    | negSucc b =>
      show Nat.blt b a = _
      rw [Bool.eq_iff_iff, Nat.blt_eq, decide_eq_true_iff]
      omega
noncomputable def leI (i j : Int) : Bool := !ltI j i
theorem sE : leI = fun i j => decide (i <= j) := by
  funext i j
  unfold leI
  rw [oP, Bool.eq_iff_iff]
  simp
noncomputable def dLt : D -> D -> Hh -> R D := yE ltI
noncomputable def dLe : D -> D -> Hh -> R D := yE leI
noncomputable def dGt : D -> D -> Hh -> R D := yE fun i j => ltI j i
noncomputable def dGe : D -> D -> Hh -> R D := yE fun i j => leI j i
theorem sG {p : Int -> Int -> Bool} : eE K g ε (yE p) (rI0 fun i j => .bl (p i j)) := by
  intro α H h a b x y Q r ra rb w
  unfold yE at w
  cases ra with
  | int i =>
    cases rb with
    | int j => exact ⟨i, j, rfl, rfl, aX.now w r (.bl _)⟩
    | _ => exact w.elim
  | _ => exact w.elim
theorem uX : eE K g ε dLt (rI0 fun i j => .bl (decide (i < j))) := by
  unfold dLt; rw [oP]; exact sG
theorem mK : eE K g ε dLe (rI0 fun i j => .bl (decide (i <= j))) := by
  unfold dLe; rw [sE]; exact sG
theorem mL : eE K g ε dGt (rI0 fun i j => .bl (decide (j < i))) := by
  unfold dGt; rw [oP]; exact sG
theorem Ha : eE K g ε dGe (rI0 fun i j => .bl (decide (j <= i))) := by
  unfold dGe; rw [sE]; exact sG
noncomputable def iT (d : D) (h : Hh) : Option (List D) := match d with
  | .tup ds => some ds
  | .frl ds => some ds
  | .scr ds => some ds
  | .ref n => aH h n
  | _ => none
theorem rW {α : List Addr} {H : Hp} {h : Hh} {d : D} {x : V} {ds : List D} (r : bh K g α H h) (rd : aU K g α H d x) (e : iT d h = some ds) : ∃ p vs, x = .ref p /\ (SqL K H p vs \/ SqT K H p vs) /\ az K g α H ds vs := by
  unfold iT at e
  cases rd with
  | tup hq rs => cases e; exact ⟨_, _, rfl, .inr (SqT.of hq), rs⟩
  | frl hq rs => cases e; exact ⟨_, _, rfl, .inl hq.sq, rs⟩
  | scr hq rs => cases e; exact ⟨_, _, rfl, .inl hq.sq, rs⟩
  | ref hp => obtain ⟨vs, hv, rs⟩ := r.lst e hp; exact ⟨_, vs, rfl, .inl (SqL.of hv), rs⟩
  | _ => cases e
noncomputable def dIx : D -> D -> Hh -> R D := fun a b h => match iT a h, b with
  | some ds, .int i => match atI ds i with
    | some d => .ok d h
    | none => .bad
  | _, _ => .bad
theorem xc {α : List Addr} {H : Hp} {ds : List D} {vs : List V} {i : Int} {d : D} (rs : az K g α H ds vs) (e : atI ds i = some d) : ∃ v, atI vs i = some v /\ aU K g α H d v := by
  unfold atI at e ⊢
  rw [<- rs.length]
  cases e1 : ixN ds.length i with
  | none => rw [e1] at e; cases e
  | some j =>
    rw [e1] at e
    exact rs.get e
theorem bT : eE K g ε dIx (rIx K) := by
  intro α H h a b x y Q r ra rb w
  unfold dIx at w
  cases e1 : iT a h with
  | none => simp only [e1] at w; exact w.elim
  | some ds =>
    simp only [e1] at w
    obtain ⟨p, vs, rfl, hq, rs⟩ := rW r ra e1
    cases rb with
    | int i =>
      cases e2 : atI ds i with
      | none => simp only [e2] at w; exact w.elim
      | some d =>
        simp only [e2] at w
        obtain ⟨v, ev, rv⟩ := xc rs e2
        rcases hq with hq | hq
        · exact .inl ⟨p, vs, i, v, rfl, rfl, hq, ev, aX.now w r rv⟩
        · exact .inr (.inl ⟨p, vs, i, v, rfl, rfl, hq, ev, aX.now w r rv⟩)
    | _ => exact w.elim
noncomputable def cF : D -> D -> D -> Hh -> R Unit := fun o i v h => match o, i with
  | .ref n, .int k => match aH h n with
    | some ds => match ixN ds.length k with
      | some j => .ok () (h.set n (.lst (ds.set j v)))
      | none => .bad
    | none => .bad
  | _, _ => .bad
theorem f6 : G7 K g ε cF DK := by
  intro α H h o i v x y z Q r ro ri rv w
  unfold cF at w
  cases ro with
  | @ref n p hp =>
    cases ri with
    | int k =>
      cases e1 : aH h n with
      | none => simp only [e1] at w; exact w.elim
      | some ds =>
        simp only [e1] at w
        cases e2 : ixN ds.length k with
        | none => simp only [e2] at w; exact w.elim
        | some j =>
          simp only [e2] at w
          obtain ⟨vs, hv, rs⟩ := r.lst e1 hp
          refine ⟨p, vs, k, j, rfl, rfl, hv, by rw [<- rs.length]; exact e2, ?_⟩
          have x := Ext.write (o := .lst (vs.set j z)) r hp
          exact w _ α x (r.write hp ⟨_, aY, (rs.set rv j).ext x⟩)
    | _ => exact w.elim
  | _ => exact w.elim
noncomputable def cutD (xs : List D) (lo hi : Option Int) : List D := (xs.drop (HT.sIx xs.length 0 lo)).take (HT.sIx xs.length xs.length hi - HT.sIx xs.length 0 lo)
theorem kW {α : List Addr} {H : Hp} {ds : List D} {vs : List V} (rs : az K g α H ds vs) (lo hi : Option Int) : az K g α H (cutD ds lo hi) (ql vs lo hi) := by
  unfold cutD ql
  rw [<- rs.length]
  exact (rs.drop _).take _
noncomputable abbrev MO := En -> Hh -> R (Option Int)
noncomputable def gk : MO := fun _ h => .ok none h
noncomputable def iU (a : ME) : MO := fun env h => (a env h).bind fun d h1 => match d with
  | .int i => .ok (some i) h1
  | _ => .bad
noncomputable def tMO (K : PySem.W.Frag) (g : GG) (ε : EE) (m : MO) : TO := fun σ H Q => ∃ α env h, dJ K g α H env σ h /\ WQ K g ε α H (m env h) fun o h' => ∀ H' α', Ext K α H α' H' -> bh K g α' H' h' -> Q o H'
theorem PO.imp {e : Option Expr} {t t' : TO} (h : PO X e t) (i : ∀ σ H Q, t' σ H Q -> t σ H Q) : PO X e t' := fun pins s σ H Q I w => h pins s σ H Q I (i σ H Q w)
theorem xA : PO X none (tMO X.K g ε gk) := PO.imp CN fun σ H Q ⟨α, env, h, s, w⟩ => w H α Ext.refl s.heap
theorem nN {e : Expr} {me : ME} (he : PE X e (tM X.K g ε me)) : PO X (some e) (tMO X.K g ε (iU me)) := PO.imp (CV he) fun σ H Q ⟨α, env, h, s, w⟩ => tM.use s w.bind fun d1 h1 v1 H1 α1 e1 s1 r1 w1 => by
  cases r1 with
  | int i => exact ⟨i, rfl, w1 H1 α1 e1 s1.heap⟩
  | _ => exact w1.elim
noncomputable def ze (nl : NL) : D -> Option Int -> Option Int -> Hh -> R D := fun d lo hi h => match d with
  | .tup ds => .ok (.tup (cutD ds lo hi)) h
  | .frl ds => nl (cutD ds lo hi) h
  | .scr ds => nl (cutD ds lo hi) h
  | .ref n => match aH h n with
    | some ds => nl (cutD ds lo hi) h
    | none => .bad
  | _ => .bad
noncomputable def gu (nl : NL) (a : ME) (l u : MO) : ME := fun env h => (a env h).bind fun x h1 => (l env h1).bind fun lo h2 => (u env h2).bind fun hi h3 => ze nl x lo hi h3
theorem tMO.use {α : List Addr} {H : Hp} {env : En} {σ : St} {h : Hh} {m : MO} {Q : Option Int -> Hp -> Prop} {k : Option Int -> Hh -> Prop} (s : dJ K g α H env σ h) (w : WQ K g ε α H (m env h) k)
    (q : ∀ d h' H' α', Ext K α H α' H' -> dJ K g α' H' env σ h' -> k d h' -> Q d H') : tMO K g ε m σ H Q :=
  ⟨α, env, h, s, w.mono fun d h' _ kk H' α' e r => q d h' H' α' e (s.ext e r) kk⟩
theorem pA {nl : NL} [iN nl] {e : Expr} {me : ME} {lo hi : Option Expr} {ml mh : MO} {p2 pos : Pos} (he : PE X e (tM X.K g ε me)) (hl : PO X lo (tMO X.K g ε ml)) (hu : PO X hi (tMO X.K g ε mh)) : PE X (.Subscript e (.Slice lo hi none p2) pos) (tM X.K g ε (gu nl me ml mh)) :=
  PE.imp (PE.frz (AB (SlR.or CS (SlR.or Fj Cg)) he hl hu)) fun σ H Q ⟨α, env, h, s, w⟩ => tM.use s w.bind fun d1 h1 v1 H1 α1 e1 s1 r1 w1 => tMO.use s1 (w1.ext e1).bind fun o2 h2 H2 α2 e2 s2 w2 => tMO.use s2 (w2.ext e2).bind fun o3 h3 H3 α3 e3 s3 w3 => by
    have tr := e1.trans (e2.trans e3)
    have r3 := r1.ext (e2.trans e3)
    have w4 := (w3.ext e3).mono fun _ _ _ p => aX.ext tr p
    unfold ze at w4
    cases r3 with
    | @frl ds p vs hq rs => exact .inl ⟨_, _, rfl, hq.sq, fun l hl => NL.post w4 s3.heap (kW rs _ _) hl⟩
    | @scr ds p vs hq rs => exact .inl ⟨_, _, rfl, hq.sq, fun l hl => NL.post w4 s3.heap (kW rs _ _) hl⟩
    | @ref n p hp =>
      cases e1 : aH h3 n with
      | none => simp only [e1] at w4; exact w4.elim
      | some ds =>
        simp only [e1] at w4
        obtain ⟨vs, hv, rs⟩ := s3.heap.lst e1 hp
        exact .inl ⟨_, _, rfl, SqL.of hv, fun l hl => NL.post w4 s3.heap (kW rs _ _) hl⟩
    | @tup ds p vs hq rs =>
      refine .inr ?_
      by_cases hw : HT.sIx vs.length 0 o2 = 0 /\ HT.sIx vs.length vs.length o3 = vs.length
      · refine .inr ⟨_, _, rfl, SqT.of hq, hw.1, hw.2, ?_⟩
        refine aX.yj w4 s3.heap (.tup hq ?_)
        have : ql vs o2 o3 = vs := by unfold ql; rw [hw.1, hw.2]; simp
        have q := kW rs o2 o3
        rw [this] at q
        exact q
      · exact .inl ⟨_, _, rfl, SqT.of hq, hw, fun l hl => .inl (aX.tup w4 s3.heap (kW rs _ _) hl)⟩
    | _ => exact w4.elim
end
noncomputable def uO : D -> Bool
  | .non => true | .bl _ => true | .int _ => true | .str _ => true
  | _ => false
noncomputable def eqF : D -> D -> Bool
  | .non, .non => true
  | .bl a, .bl b => a == b
  | .bl a, .int b => (if a then 1 else 0) == b
  | .int a, .bl b => a == (if b then 1 else 0)
  | .int a, .int b => a == b
  | .str a, .str b => a == b
  | _, _ => false
noncomputable def eqL (f : D -> D -> Option Bool) : List D -> List D -> Option Bool
  | x :: xs, y :: ys => match f x y, eqL f xs ys with
    | some b, some c => some (b && c)
    | _, _ => none
  | [], [] => some true
  | _, _ => some false
inductive Vw where
  | fl | tp (ds : List D) | ls (ds : List D) | no
noncomputable def vw (d : D) (h : Hh) : Vw := match d with
  | .non => .fl | .bl _ => .fl | .int _ => .fl | .str _ => .fl
  | .tup ds => .tp ds
  | .frl ds => .ls ds
  | .scr ds => .ls ds
  | .ref n => match aH h n with
    | some ds => .ls ds
    | none => .no
  | _ => .no
noncomputable def eqD : Nat -> Hh -> D -> D -> Option Bool
  | 0, _, _, _ => none
  | k + 1, h, a, b => match vw a h, vw b h with
    | .fl, .fl => some (eqF a b)
    | .tp xs, .tp ys => eqL (eqD k h) xs ys
    | .ls xs, .ls ys => if xs.length = ys.length then eqL (eqD k h) xs ys else some false
    | .fl, .tp _ => some false
    | .fl, .ls _ => some false
    | .tp _, .fl => some false
    | .tp _, .ls _ => some false
    | .ls _, .fl => some false
    | .ls _, .tp _ => some false
    | _, _ => none
section
variable {K : PySem.W.Frag} {g : GG} {α : List Addr} {H : Hp} {h : Hh}
theorem pv {f : D -> D -> Option Bool} (hf : ∀ a b x c, aU K g α H a x -> aU K g α H b x -> f a b = some c -> c = true) : ∀ {xs ys : List D} {vs : List V} {c : Bool}, az K g α H xs vs -> az K g α H ys vs -> eqL f xs ys = some c -> c = true
  | _, _, _, _, .nil, .nil, e => by simp [eqL] at e; exact e
  | _, _, _, c, .cons r t, .cons r' t', e => by
    unfold eqL at e
    split at e
    · rename_i b c' h1 h2
      have e1 := hf _ _ _ _ r r' h1
      have e2 := pv hf t t' h2
      subst e1 e2
      exact (Option.some.inj e).symm
    · cases e
theorem mT {d : D} {x : V} (rd : aU K g α H d x) (e : vw d h = .fl) : uO d = true := by
  cases rd with
  | ref hp => unfold vw at e; simp only at e; split at e <;> cases e
  | _ => first | rfl | cases e
theorem mQ {d : D} {x : V} {ds : List D} (rd : aU K g α H d x) (e : vw d h = .tp ds) : ∃ p vs, x = .ref p /\ SqT K H p vs /\ az K g α H ds vs := by
  cases rd with
  | tup hp rs => cases e; exact ⟨_, _, rfl, SqT.of hp, rs⟩
  | ref hp => unfold vw at e; simp only at e; split at e <;> cases e
  | _ => cases e
theorem mY {d : D} {x : V} {ds : List D} (r : bh K g α H h) (rd : aU K g α H d x) (e : vw d h = .ls ds) : ∃ p vs, x = .ref p /\ SqL K H p vs /\ az K g α H ds vs := by
  cases rd with
  | frl hp rs => cases e; exact ⟨_, _, rfl, hp.sq, rs⟩
  | scr hp rs => cases e; exact ⟨_, _, rfl, hp.sq, rs⟩
  | @ref n p hp =>
    unfold vw at e
    simp only at e
    cases el : aH h n with
    | none => rw [el] at e; cases e
    | some ds' =>
      rw [el] at e; cases e
      obtain ⟨vs, hv, rs⟩ := r.lst el hp
      exact ⟨_, _, rfl, SqL.of hv, rs⟩
  | _ => cases e
theorem w_ {f : D -> D -> Option Bool} : ∀ {xs ys : List D} {c : Bool}, eqL f xs ys = some c →
    (∀ (j : Nat) (x y : D), xs[j]? = some x -> ys[j]? = some y -> ∃ b, f x y = some b) /\ c = ((List.range (min xs.length ys.length)).all (fun j => ((f (xs.getD j .non) (ys.getD j .non)).getD false)) && xs.length == ys.length)
  | [], [], c, e => by
    simp [eqL] at e
    refine ⟨fun j x y h => by simp at h, ?_⟩
    simp [<- e]
  | [], _ :: _, c, e => by
    simp [eqL] at e
    exact ⟨fun j x y h => by simp at h, by simp [<- e]⟩
  | _ :: _, [], c, e => by
    simp [eqL] at e
    exact ⟨fun j x y _ h => by simp at h, by simp [<- e]⟩
  | x :: xs, y :: ys, c, e => by
    unfold eqL at e
    split at e
    · rename_i b c' h1 h2
      obtain ⟨q1, q2⟩ := w_ h2
      refine ⟨fun j x' y' hx hy => ?_, ?_⟩
      · cases j with
        | zero => simp at hx hy; subst hx hy; exact ⟨b, h1⟩
        | succ j => exact q1 j x' y' (by simpa using hx) (by simpa using hy)
      · have e' := (Option.some.inj e).symm
        rw [e', q2]
        have hm : min (x :: xs).length (y :: ys).length = min xs.length ys.length + 1 := by simp [Nat.succ_min_succ]
        rw [hm, List.range_succ_eq_map, List.all_cons, List.all_map]
        have h0 : (f ((x :: xs).getD 0 .non) ((y :: ys).getD 0 .non)).getD false = b := by
          show (f x y).getD false = b
          rw [h1]; rfl
        rw [h0]
        have hlen : ((x :: xs).length == (y :: ys).length) = (xs.length == ys.length) := by simp
        rw [hlen, Bool.and_assoc]
        rfl
    · cases e
end
section
variable {X : Cx} {g : GG} {pins : List (Addr × Obj)} {σ : St} {H : Hp} {s : Shared} {α : List Addr} {h : Hh}
open PySem.SeqAt
theorem B6 {A : Around} {a b : D} {x y : V} {u v : Value} {K : PySem.W.Frag} (ra : aU K g α H a x) (rb : aU K g α H b y) (ru : RelV x u) (rv : RelV y v) (fa : uO a = true) (fb : uO b = true) :
    EqAt A s u v (eqF a b) /\ RcAt A s u v (eqF a b) /\ RcNeAt A s u v (!eqF a b) := by
  cases ra with
  | non =>
    cases ru
    cases rb with
    | non => cases rv; exact ⟨.same _, .none_none, .none_none⟩
    | bl z => cases rv; exact ⟨.none_bool z, .none_bool z, .none_bool z⟩
    | int z => obtain ⟨t, rfl⟩ := rv; exact ⟨.none_int z t, .none_int z t, .none_int z t⟩
    | str z => obtain ⟨t, rfl⟩ := rv; exact ⟨.none_str z t, .none_str z t, .none_str z t⟩
    | _ => cases fb
  | bl q =>
    cases ru
    cases rb with
    | non => cases rv; exact ⟨.bool_none q, .bool_none q, .bool_none q⟩
    | bl z => cases rv; exact ⟨.bool_bool q z, .bool_bool q z, .bool_bool q z⟩
    | int z => obtain ⟨t, rfl⟩ := rv; exact ⟨.bool_int q z t, .bool_int q z t, .bool_int q z t⟩
    | str z => obtain ⟨t, rfl⟩ := rv; exact ⟨.bool_str q z t, .bool_str q z t, .bool_str q z t⟩
    | _ => cases fb
  | int q =>
    obtain ⟨t', rfl⟩ := ru
    cases rb with
    | non => cases rv; exact ⟨.int_none q t', .int_none q t', .int_none q t'⟩
    | bl z => cases rv; exact ⟨.int_bool q t' z, .int_bool q t' z, .int_bool q t' z⟩
    | int z => obtain ⟨t, rfl⟩ := rv; exact ⟨.int_int q t' z t, .int_int q t' z t, .int_int q t' z t⟩
    | str z => obtain ⟨t, rfl⟩ := rv; exact ⟨.int_str q t' z t, .int_str q t' z t, .int_str q t' z t⟩
    | _ => cases fb
  | str q =>
    obtain ⟨t', rfl⟩ := ru
    cases rb with
    | non => cases rv; exact ⟨.str_none q t', .str_none q t', .str_none q t'⟩
    | bl z => cases rv; exact ⟨.str_bool q t' z, .str_bool q t' z, .str_bool q t' z⟩
    | int z => obtain ⟨t, rfl⟩ := rv; exact ⟨.str_int q t' z t, .str_int q t' z t, .str_int q t' z t⟩
    | str z => obtain ⟨t, rfl⟩ := rv; exact ⟨.str_str q t' z t, .str_str q t' z t, .str_str q t' z t⟩
    | _ => cases fb
  | _ => cases fa
theorem t_ {A : Around} {b : D} {y : V} {v : Value} {p : Addr} {its : Array Value} {K : PySem.W.Frag} (ht : s.heap.IsTuple p its) (hu : A.units < cLine) (rb : aU K g α H b y) (rv : RelV y v) (fb : uO b = true) :
    (EqAt A s (.ref p) v false /\ RcAt A s (.ref p) v false /\ RcNeAt A s (.ref p) v true) /\ (EqAt A s v (.ref p) false /\ RcAt A s v (.ref p) false /\ RcNeAt A s v (.ref p) true) := by
  cases rb with
  | non => cases rv; exact ⟨⟨.tuple_none ht hu, .tuple_none ht hu, .tuple_none ht hu⟩, .none_tuple ht hu, .none_tuple ht hu, .none_tuple ht hu⟩
  | bl z => cases rv; exact ⟨⟨.tuple_bool z ht hu, .tuple_bool z ht hu, .tuple_bool z ht hu⟩, .bool_tuple z ht hu, .bool_tuple z ht hu, .bool_tuple z ht hu⟩
  | int z => obtain ⟨t, rfl⟩ := rv; exact ⟨⟨.tuple_int z t ht hu, .tuple_int z t ht hu, .tuple_int z t ht hu⟩, .int_tuple z t ht hu, .int_tuple z t ht hu, .int_tuple z t ht hu⟩
  | str z => obtain ⟨t, rfl⟩ := rv; exact ⟨⟨.tuple_str z t ht hu, .tuple_str z t ht hu, .tuple_str z t ht hu⟩, .str_tuple z t ht hu, .str_tuple z t ht hu, .str_tuple z t ht hu⟩
  | _ => cases fb
theorem uw {A : Around} {b : D} {y : V} {v : Value} {p : Addr} {its : Array Value} {K : PySem.W.Frag} (ht : s.heap.IsList p its) (hu : A.units < cLine) (rb : aU K g α H b y) (rv : RelV y v) (fb : uO b = true) :
    (EqAt A s (.ref p) v false /\ RcAt A s (.ref p) v false /\ RcNeAt A s (.ref p) v true) /\ (EqAt A s v (.ref p) false /\ RcAt A s v (.ref p) false /\ RcNeAt A s v (.ref p) true) := by
  cases rb with
  | non => cases rv; exact ⟨⟨.list_none ht hu, .list_none ht hu, .list_none ht hu⟩, .none_list ht hu, .none_list ht hu, .none_list ht hu⟩
  | bl z => cases rv; exact ⟨⟨.list_bool z ht hu, .list_bool z ht hu, .list_bool z ht hu⟩, .bool_list z ht hu, .bool_list z ht hu, .bool_list z ht hu⟩
  | int z => obtain ⟨t, rfl⟩ := rv; exact ⟨⟨.list_int z t ht hu, .list_int z t ht hu, .list_int z t ht hu⟩, .int_list z t ht hu, .int_list z t ht hu, .int_list z t ht hu⟩
  | str z => obtain ⟨t, rfl⟩ := rv; exact ⟨⟨.list_str z t ht hu, .list_str z t ht hu, .list_str z t ht hu⟩, .str_list z t ht hu, .str_list z t ht hu, .str_list z t ht hu⟩
  | _ => cases fb
theorem tX {A : Around} {k : Nat} {ds es : List D} {vs us : List V} {its jts : List Value} {c : Bool} (r : bh X.K g α H h)
    (ih : ∀ (a b : D) (x y : V) (u v : Value) (c : Bool), aU X.K g α H a x -> aU X.K g α H b y -> RelV x u -> RelV y v -> eqD k h a b = some c -> EqAt A.in1 s u v c)
    (rs : az X.K g α H ds vs) (rt : az X.K g α H es us) (rv : Vals vs its) (ru : Vals us jts) (e : eqL (eqD k h) ds es = some c) :
    (∀ j (h1 : j < its.toArray.size) (h2 : j < jts.toArray.size), EqAt A.in1 s its.toArray[j] jts.toArray[j] ((fun (j : Nat) => (eqD k h (ds.getD j .non) (es.getD j .non)).getD false) j)) ∧
    c = ((List.range (min its.toArray.size jts.toArray.size)).all (fun (j : Nat) => (eqD k h (ds.getD j .non) (es.getD j .non)).getD false) && its.toArray.size == jts.toArray.size) := by
  obtain ⟨q1, q2⟩ := w_ e
  have l1 : its.toArray.size = ds.length := by rw [List.size_toArray, <- rv.length, rs.length]
  have l2 : jts.toArray.size = es.length := by rw [List.size_toArray, <- ru.length, rt.length]
  refine ⟨fun j h1 h2 => ?_, by rw [l1, l2]; exact q2⟩
  have hd : ds[j]? = some (ds.getD j .non) := by rw [List.getD_eq_getElem?_getD, List.getElem?_eq_getElem (by omega)]; rfl
  have he : es[j]? = some (es.getD j .non) := by rw [List.getD_eq_getElem?_getD, List.getElem?_eq_getElem (by omega)]; rfl
  obtain ⟨b, hb⟩ := q1 j _ _ hd he
  obtain ⟨x, hx, rx⟩ := rs.get hd
  obtain ⟨y, hy, ry⟩ := rt.get he
  obtain ⟨u, hu, rxu⟩ := rv.get hx
  obtain ⟨v, hv, ryv⟩ := ru.get hy
  have eu : its.toArray[j] = u := by
    have := List.getElem?_eq_getElem (l := its) (i := j) (by simpa using h1)
    rw [hu] at this
    simpa using (Option.some.inj this).symm
  have ev : jts.toArray[j] = v := by
    have := List.getElem?_eq_getElem (l := jts) (i := j) (by simpa using h2)
    rw [hv] at this
    simpa using (Option.some.inj this).symm
  rw [eu, ev]
  show EqAt A.in1 s u v ((eqD k h (ds.getD j .non) (es.getD j .non)).getD false)
  rw [hb]
  exact ih _ _ _ _ _ _ _ rx ry rxu ryv hb
theorem wI (I : Inv X pins σ H s) {p : Addr} {vs us : List V} (a : SqT X.K H p vs) (b : SqL X.K H p us) : False := by
  obtain ⟨its, r1, ⟨o, e, c, _⟩, _⟩ := I.tuple a
  obtain ⟨jts, r2, ⟨o', n', e', c', _⟩, _⟩ := I.list b
  rw [e] at e'; cases e'; rw [c] at c'; injection c' with z; exact absurd z (by decide)
theorem oo (I : Inv X pins σ H s) (r : bh X.K g α H h) : ∀ (k : Nat) (a b : D) (x : V) (c : Bool), aU X.K g α H a x -> aU X.K g α H b x -> eqD k h a b = some c -> c = true
  | 0, _, _, _, _, _, _, e => by cases e
  | k + 1, a, b, x, c, ra, rb, e => by
    unfold eqD at e
    cases ea : vw a h with
    | no => simp [ea] at e
    | fl =>
      have fa := mT ra ea
      cases eb : vw b h with
      | no => simp [ea, eb] at e
      | fl =>
        simp only [ea, eb] at e
        cases e
        have fb := mT rb eb
        cases ra with
        | non => cases rb with
          | non => rfl
        | bl z => cases rb with
          | bl _ => simp [eqF]
        | int z => cases rb with
          | int _ => simp [eqF]
        | str z => cases rb with
          | str _ => simp [eqF]
        | _ => cases fa
      | tp ds => obtain ⟨p, vs, rfl, _⟩ := mQ rb eb; cases ra <;> cases fa
      | ls ds => obtain ⟨p, vs, rfl, _⟩ := mY r rb eb; cases ra <;> cases fa
    | tp da =>
      obtain ⟨p, va, rfl, hp, rs⟩ := mQ ra ea
      cases eb : vw b h with
      | no => simp [ea, eb] at e
      | fl => have fb := mT rb eb; cases rb <;> cases fb
      | tp db =>
        simp only [ea, eb] at e
        obtain ⟨q, vb, hpq, hq, rt⟩ := mQ rb eb
        cases hpq
        have := I.gP hp hq
        subst this
        exact pv (fun a b x c => oo I r k a b x c) rs rt e
      | ls db =>
        obtain ⟨q, vb, hpq, hq, rt⟩ := mY r rb eb
        cases hpq
        exact (wI I hp hq).elim
    | ls da =>
      obtain ⟨p, va, rfl, hp, rs⟩ := mY r ra ea
      cases eb : vw b h with
      | no => simp [ea, eb] at e
      | fl => have fb := mT rb eb; cases rb <;> cases fb
      | tp db =>
        obtain ⟨q, vb, hpq, hq, rt⟩ := mQ rb eb
        cases hpq
        exact (wI I hq hp).elim
      | ls db =>
        simp only [ea, eb] at e
        obtain ⟨q, vb, hpq, hq, rt⟩ := mY r rb eb
        cases hpq
        have := I.jk hp hq
        subst this
        rw [if_pos (by rw [rs.length, rt.length])] at e
        exact pv (fun a b x c => oo I r k a b x c) rs rt e
theorem vx (I : Inv X pins σ H s) (r : bh X.K g α H h) : ∀ (k : Nat) (A : Around) (a b : D) (x y : V) (u v : Value) (c : Bool), A.units + k < cLine -> aU X.K g α H a x -> aU X.K g α H b y -> RelV x u -> RelV y v -> eqD k h a b = some c →
    EqAt A s u v c /\ RcAt A s u v c /\ RcNeAt A s u v (!c)
  | 0, _, _, _, _, _, _, _, _, _, _, _, _, _, e => by cases e
  | k + 1, A, a, b, x, y, u, v, c, hu, ra, rb, ru, rv, e => by
    have hu0 : A.units < cLine := by omega
    have ih : ∀ (a b : D) (x y : V) (u v : Value) (c : Bool), aU X.K g α H a x -> aU X.K g α H b y -> RelV x u -> RelV y v -> eqD k h a b = some c -> EqAt A.in1 s u v c :=
      fun a b x y u v c h1 h2 h3 h4 h5 => (vx I r k A.in1 a b x y u v c (by show A.units + 1 + k < _; omega) h1 h2 h3 h4 h5).1
    have whole := fun x ra rb => oo I r (k + 1) a b x c ra rb e
    unfold eqD at e
    cases ea : vw a h with
    | no => simp [ea] at e
    | fl =>
      have fa := mT ra ea
      cases eb : vw b h with
      | no => simp [ea, eb] at e
      | fl => simp only [ea, eb] at e; cases e; exact B6 ra rb ru rv fa (mT rb eb)
      | tp db =>
        simp only [ea, eb] at e; cases e
        obtain ⟨q, vb, rfl, hq, rt⟩ := mQ rb eb
        cases rv
        obtain ⟨its, r1, ht, _⟩ := I.tuple hq
        exact (t_ ht hu0 ra ru fa).2
      | ls db =>
        simp only [ea, eb] at e; cases e
        obtain ⟨q, vb, rfl, hq, rt⟩ := mY r rb eb
        cases rv
        obtain ⟨its, r1, ht, _⟩ := I.list hq
        exact (uw ht.isList hu0 ra ru fa).2
    | tp da =>
      obtain ⟨p, va, rfl, hp, rs⟩ := mQ ra ea
      cases ru
      obtain ⟨its, r1, ht, _⟩ := I.tuple hp
      cases eb : vw b h with
      | no => simp [ea, eb] at e
      | fl => simp only [ea, eb] at e; cases e; exact (t_ ht hu0 rb rv (mT rb eb)).1
      | tp db =>
        simp only [ea, eb] at e
        obtain ⟨q, vb, rfl, hq, rt⟩ := mQ rb eb
        cases rv
        obtain ⟨jts, r2, ht2, _⟩ := I.tuple hq
        obtain ⟨h1, h2⟩ := tX r ih rs rt r1 r2 e
        have rc : RcAt A s (.ref p) (.ref q) c := by rw [h2]; exact RcAt.tuples ht ht2 hu0 h1
        refine ⟨?_, rc, by rw [h2]; exact RcNeAt.tuples ht ht2 hu0 h1⟩
        by_cases hpq : p = q
        · subst hpq
          rw [whole _ ra rb]
          exact .same _
        · exact .of_refs hpq rc
      | ls db =>
        simp only [ea, eb] at e; cases e
        obtain ⟨q, vb, rfl, hq, rt⟩ := mY r rb eb
        cases rv
        obtain ⟨jts, r2, ht2, _⟩ := I.list hq
        exact ⟨.tuple_list ht ht2.isList hu0, .tuple_list ht ht2.isList hu0, .tuple_list ht ht2.isList hu0⟩
    | ls da =>
      obtain ⟨p, va, rfl, hp, rs⟩ := mY r ra ea
      cases ru
      obtain ⟨its, r1, ht', _⟩ := I.list hp
      have ht := ht'.isList
      cases eb : vw b h with
      | no => simp [ea, eb] at e
      | fl => simp only [ea, eb] at e; cases e; exact (uw ht hu0 rb rv (mT rb eb)).1
      | tp db =>
        simp only [ea, eb] at e; cases e
        obtain ⟨q, vb, rfl, hq, rt⟩ := mQ rb eb
        cases rv
        obtain ⟨jts, r2, ht2, _⟩ := I.tuple hq
        exact ⟨.list_tuple ht ht2 hu0, .list_tuple ht ht2 hu0, .list_tuple ht ht2 hu0⟩
      | ls db =>
        simp only [ea, eb] at e
        obtain ⟨q, vb, rfl, hq, rt⟩ := mY r rb eb
        cases rv
        obtain ⟨jts, r2, ht2', _⟩ := I.list hq
        have ht2 := ht2'.isList
        have l1 : its.toArray.size = da.length := by rw [List.size_toArray, <- r1.length, rs.length]
        have l2 : jts.toArray.size = db.length := by rw [List.size_toArray, <- r2.length, rt.length]
        have fin : RcAt A s (.ref p) (.ref q) c /\ RcNeAt A s (.ref p) (.ref q) (!c) := by
          by_cases hl : da.length = db.length
          · rw [if_pos hl] at e
            obtain ⟨h1, h2⟩ := tX r ih rs rt r1 r2 e
            have hsz : its.toArray.size = jts.toArray.size := by omega
            have h2' : c = (List.range its.toArray.size).all (fun (j : Nat) => (eqD k h (da.getD j .non) (db.getD j .non)).getD false) := by
              rw [h2, <- hsz, Nat.min_self]; simp
            exact ⟨by rw [h2']; exact RcAt.lists ht ht2 hsz hu0 h1, by rw [h2']; exact RcNeAt.lists ht ht2 hsz hu0 h1⟩
          · rw [if_neg hl] at e
            have e2 : c = false := (Option.some.inj e).symm
            have hsz : (its.toArray.size != jts.toArray.size) = true := by
              rw [l1, l2]; simpa using hl
            rw [e2]
            exact ⟨RcAt.lists_lengths ht ht2 hsz hu0, RcNeAt.lists_lengths ht ht2 hsz hu0⟩
        refine ⟨?_, fin⟩
        by_cases hpq : p = q
        · subst hpq
          rw [whole _ ra rb]
          exact .same _
        · exact .of_refs hpq fin.1
noncomputable abbrev eqN : Nat := 12
noncomputable def dEq : D -> D -> Hh -> R D := fun a b h => match eqD eqN h a b with
  | some c => .ok (.bl c) h
  | none => .bad
noncomputable def dNe : D -> D -> Hh -> R D := fun a b h => match eqD eqN h a b with
  | some c => .ok (.bl (!c)) h
  | none => .bad
noncomputable def BW (K : PySem.W.Frag) (g : GG) (neg : Bool) : R2 := fun x y H Q => ∃ α h a b c, bh K g α H h /\ aU K g α H a x /\ aU K g α H b y /\ eqD eqN h a b = some c /\ Q (.bl (if neg then !c else c)) H
theorem jr (hu : X.A.units + 64 < cLine) : OpR X (compareOp .Eq) (BW X.K g false) := by
  intro pins s σ H x y v u Q I rx ry ⟨α, h, a, b, c, r, ra, rb, e, q⟩
  exact (vx I r eqN X.A a b x y v u c (by show X.A.units + 12 < _; omega) ra rb rx ry e).2.1 _ _ _ _ ⟨.bl c, H, I, rfl, q⟩
theorem j9 (hu : X.A.units + 64 < cLine) : OpR X (compareOp .NotEq) (BW X.K g true) := by
  intro pins s σ H x y v u Q I rx ry ⟨α, h, a, b, c, r, ra, rb, e, q⟩
  exact (vx I r eqN X.A a b x y v u c (by show X.A.units + 12 < _; omega) ra rb rx ry e).2.2 _ _ _ _ ⟨.bl (!c), H, I, rfl, q⟩
theorem mN {ε : EE} {K : PySem.W.Frag} : eE K g ε dEq (BW K g false) := by
  intro α H h a b x y Q r ra rb w
  unfold dEq at w
  cases e : eqD eqN h a b with
  | none => simp only [e] at w; exact w.elim
  | some c => simp only [e] at w; exact ⟨α, h, a, b, c, r, ra, rb, e, aX.now w r (.bl _)⟩
theorem pS {ε : EE} {K : PySem.W.Frag} : eE K g ε dNe (BW K g true) := by
  intro α H h a b x y Q r ra rb w
  unfold dNe at w
  cases e : eqD eqN h a b with
  | none => simp only [e] at w; exact w.elim
  | some c => simp only [e] at w; exact ⟨α, h, a, b, c, r, ra, rb, e, aX.now w r (.bl _)⟩
end
section
variable {X : Cx} {K : PySem.W.Frag} {g : GG} {ε : EE}
noncomputable def bF : List D -> Hh -> R D := fun ds h => match ds with
  | [.tup ds] => .ok (.int ds.length) h
  | [.frl ds] => .ok (.int ds.length) h
  | [.scr ds] => .ok (.int ds.length) h
  | [.str x] => if x.length <= 1000000 then .ok (.int x.length) h else .bad
  | [.ref n] => match h[n]? with
    | some (.lst ds) => .ok (.int ds.length) h
    | some (.set k) => .ok (.int k.length) h
    | _ => .bad
  | _ => .bad
noncomputable abbrev DS (K : PySem.W.Frag) : List V -> Hp -> VK -> Prop := fun xs H Q => (∃ p ys, xs = [.ref p] /\ (SqL K H p ys \/ SqT K H p ys) /\ Q (.int ys.length) H) \/ (∃ p S n, xs = [.ref p] /\ H p = some (.set S n) /\ Q (.int n) H) \/ ∃ z, xs = [.str z] /\ z.length <= sizeLine /\ Q (.int z.length) H
theorem bH : bO X (.builtin "len") (DS X.K) := bO.or r6 (bO.or qs tB)
theorem kg {α : List Addr} {H : Hp} {h : Hh} {ds : List D} {vs : List V} {f : List D -> Hh -> R D} {Q : VK} (hf : ∀ d e r h, f (d :: e :: r) h = .bad) (hf0 : ∀ h, f [] h = .bad) (rs : az K g α H ds vs) (w : WQ K g ε α H (f ds h) (aX K g α H Q)) : ∃ d v, ds = [d] /\ vs = [v] /\ aU K g α H d v := by
  cases rs with
  | nil => rw [hf0] at w; exact w.elim
  | cons r t =>
    cases t with
    | nil => exact ⟨_, _, rfl, rfl, r⟩
    | cons _ _ => rw [hf] at w; exact w.elim
theorem bE : lQ K g ε bF (DS K) := by
  intro α H h a x Q r ra w
  obtain ⟨d, v, rfl, rfl, rd⟩ := kg (f := bF) (fun d _ _ _ => by cases d <;> rfl) (fun _ => rfl) ra w
  unfold bF at w
  cases rd with
  | tup hp rs => exact .inl ⟨_, _, rfl, .inr (SqT.of hp), aX.now w r (by rw [<- rs.length]; exact .int _)⟩
  | frl hp rs => exact .inl ⟨_, _, rfl, .inl hp.sq, aX.now w r (by rw [<- rs.length]; exact .int _)⟩
  | scr hp rs => exact .inl ⟨_, _, rfl, .inl hp.sq, aX.now w r (by rw [<- rs.length]; exact .int _)⟩
  | str z =>
    obtain ⟨hl, w⟩ := WQ.e_ w
    exact .inr (.inr ⟨z, rfl, ia hl, aX.now w r (.int _)⟩)
  | @ref n p hp =>
    simp only at w
    cases e : h[n]? with
    | none => rw [e] at w; exact w.elim
    | some o =>
      rw [e] at w
      have q := r.here n p o hp e
      cases o with
      | lst ds => obtain ⟨vs, hv, rs⟩ := q; exact .inl ⟨p, vs, rfl, .inl (SqL.of hv), aX.now w r (by rw [<- rs.length]; exact .int _)⟩
      | set k => exact .inr (.inl ⟨p, _, _, rfl, q, aX.now w r (.int _)⟩)
      | dic k => exact w.elim
      | dit k => exact w.elim
  | _ => exact w.elim
noncomputable def bW : List D -> Hh -> R D := fun ds h => match ds with
  | [.tup ds] => .ok (.tup ds) h
  | [.frl ds] => .ok (.tup ds) h
  | [.ref n] => match aH h n with
    | some ds => .ok (.tup ds) h
    | none => .bad
  | _ => .bad
theorem eC : lQ K g ε bW (fun xs H Q => ∃ p ys, xs = [.ref p] /\ ((SqL K H p ys /\ ∀ l, H l = none -> Q (.ref l) (upd H l (.tup ys))) \/ (SqT K H p ys /\ Q (.ref p) H))) := by
  intro α H h a x Q r ra w
  obtain ⟨d, v, rfl, rfl, rd⟩ := kg (f := bW) (fun d _ _ _ => by cases d <;> rfl) (fun _ => rfl) ra w
  unfold bW at w
  cases rd with
  | tup hp rs => exact ⟨_, _, rfl, .inr ⟨SqT.of hp, aX.now w r (.tup hp rs)⟩⟩
  | frl hp rs => exact ⟨_, _, rfl, .inl ⟨hp.sq, fun l hl => aX.tup w r rs hl⟩⟩
  | @ref n p hp =>
    simp only at w
    cases e : aH h n with
    | none => rw [e] at w; exact w.elim
    | some ds =>
      rw [e] at w
      obtain ⟨vs, hv, rs⟩ := r.lst e hp
      exact ⟨p, vs, rfl, .inl ⟨SqL.of hv, fun l hl => aX.tup w r rs hl⟩⟩
  | _ => exact w.elim
noncomputable def intsOf : List D -> Option (List Int)
  | [] => some []
  | .int i :: ds => (intsOf ds).map (i :: ·)
  | _ :: _ => none
theorem dy : ∀ {ds : List D} {ns : List Int}, intsOf ds = some ns -> ds = ns.map D.int
  | [], ns, e => by cases e; rfl
  | .int i :: ds, ns, e => by
    unfold intsOf at e
    cases e1 : intsOf ds with
    | none => rw [e1] at e; cases e
    | some ms => rw [e1] at e; cases e; rw [dy e1]; rfl
  | .non :: _, _, e => by cases e
  | .bl _ :: _, _, e => by cases e
  | .str _ :: _, _, e => by cases e
  | .tup _ :: _, _, e => by cases e
  | .frl _ :: _, _, e => by cases e
  | .ref _ :: _, _, e => by cases e
  | .fn _ :: _, _, e => by cases e
  | .edic :: _, _, e => by cases e
  | .exc _ _ :: _, _, e => by cases e
  | .scr _ :: _, _, e => by cases e
theorem fX : ∀ (ns : List Int), intsOf (ns.map D.int) = some ns
  | [] => rfl
  | n :: r => by rw [List.map_cons, intsOf, fX r]; rfl
noncomputable def u4 : List D -> Hh -> R D := fun ds h => match ds with
  | [.tup ds] => match intsOf ds with
    | some ns => if ns.length <= 4000 then .ok (.ref h.length) (h ++ [.set (unl ns)]) else .bad
    | none => .bad
  | _ => .bad
theorem AR : lQ K g ε u4 (fun vs H Q => ∃ p ns, vs = [.ref p] /\ SqT K H p (ns.map V.int) /\ ns.length + 1 < scanBound /\ ∀ l, H l = none -> Q (.ref l) (upd H l (.set (fun k => (unl ns).any (· == k)) (unl ns).length))) := by
  intro α H h a x Q r ra w
  obtain ⟨d, v, rfl, rfl, rd⟩ := kg (f := u4) (fun d _ _ _ => by cases d <;> rfl) (fun _ => rfl) ra w
  unfold u4 at w
  cases rd with
  | tup hp rs =>
    simp only at w
    cases e : intsOf _ with
    | none => rw [e] at w; exact w.elim
    | some ns =>
      rw [e] at w
      obtain ⟨hl, w⟩ := WQ.e_ w
      have e2 := dy e
      subst e2
      have e3 := rs.qT
      subst e3
      refine ⟨_, ns, rfl, SqT.of hp, by show ns.length + 1 < 4096; omega, fun l hn => ?_⟩
      refine (show aX K g α H Q _ _ from w) _ _ (α ++ [l]) (Ext.push hn) (r.push hn aY) (.ref ?_)
      rw [<- r.len, List.getElem?_append_right (Nat.le_refl _)]; simp
  | _ => exact w.elim
noncomputable def Av : List D -> Hh -> R D := fun ds h => match ds with
  | [.int i, .int j] => .ok (.int (if j > i then j else i)) h
  | _ => .bad
theorem zc {α : List Addr} {H : Hp} {h : Hh} {ds : List D} {vs : List V} {t : Int -> Int -> Int} {Q : VK} (r : bh K g α H h) (rs : az K g α H ds vs) (w : WQ K g ε α H (match ds with | [.int i, .int j] => .ok (.int (t i j)) h | _ => .bad) (aX K g α H Q)) : ∃ i j, vs = [.int i, .int j] /\ Q (.int (t i j)) H := by
  split at w
  · cases rs with
    | cons r1 t1 =>
      cases r1
      cases t1 with
      | cons r2 t2 =>
        cases r2
        cases t2
        exact ⟨_, _, rfl, aX.now w r (.int _)⟩
  · exact w.elim
theorem Dc : lQ K g ε Av (fun xs H Q => ∃ i j, xs = [.int i, .int j] /\ Q (.int (if j > i then j else i)) H) := fun α H h a x Q r ra w => zc (t := fun i j => if j > i then j else i) r ra w
noncomputable def y0 : List D -> Hh -> R D := fun ds h => match ds with
  | [.int i] => .ok (.int i) h
  | [.bl b] => .ok (.int (if b then 1 else 0)) h
  | _ => .bad
theorem Ew : lQ K g ε y0 (fun xs H Q => (∃ i, xs = [.int i] /\ Q (.int i) H) \/ ∃ k, xs = [.bl k] /\ Q (.int (if k then 1 else 0)) H) := by
  intro α H h a x Q r ra w
  obtain ⟨d, v, rfl, rfl, rd⟩ := kg (f := y0) (fun d _ _ _ => by cases d <;> rfl) (fun _ => rfl) ra w
  unfold y0 at w
  cases rd with
  | int i => exact .inl ⟨i, rfl, aX.now w r (.int _)⟩
  | bl b => exact .inr ⟨b, rfl, aX.now w r (.int _)⟩
  | _ => exact w.elim
noncomputable def tyD (d : D) (h : Hh) : Option String := match d with
  | .non => some "NoneType"
  | .bl _ => some "bool"
  | .int _ => some "int"
  | .str _ => some "str"
  | .tup _ => some "tuple"
  | .frl _ => some "list"
  | .edic => some "dict"
  | .ref n => match h[n]? with
    | some (.lst _) => some "list"
    | some (.dic _) => some "dict"
    | some (.dit _) => some "dict"
    | _ => none
  | _ => none
noncomputable def xy (t n : String) : Option Bool :=
  if n = "int" then (if t = "int" then some true else if t = "bool" then some true else if t = "NoneType" \/ t = "str" \/ t = "tuple" \/ t = "list" \/ t = "dict" then some false else none)
  else if n = "bool" \/ n = "tuple" \/ n = "list" \/ n = "str" then (if t = n then some true else if t = "int" \/ t = "bool" \/ t = "NoneType" \/ t = "str" \/ t = "tuple" \/ t = "list" \/ t = "dict" then some false else none)
  else none
noncomputable def tj (n : String) : D -> Hh -> R D := fun d h => match tyD d h with
  | some t => match xy t n with
    | some b => .ok (.bl b) h
    | none => .bad
  | none => .bad
theorem GJ {α : List Addr} {H : Hp} {h : Hh} {d : D} {v : V} {t : String} (r : bh K g α H h) (rd : aU K g α H d v) (e : tyD d h = some t) : kB K H v (.type t) := by
  unfold tyD at e
  cases rd with
  | non => cases e; exact .non
  | bl b => cases e; exact .bl b
  | int i => cases e; exact .int i
  | str i => cases e; exact .str i
  | tup hp rs => cases e; exact .tup hp
  | frl hp rs => cases e; obtain ⟨o, hp⟩ := hp; exact .frz hp
  | edic hp => cases e; exact .gy hp
  | @ref n p hp =>
    simp only at e
    cases eo : h[n]? with
    | none => rw [eo] at e; cases e
    | some o =>
      rw [eo] at e
      have q := r.here n p o hp eo
      cases o with
      | lst ds => cases e; obtain ⟨vs, hv, _⟩ := q; exact .lst hv
      | set k => cases e
      | dic k => cases e; obtain ⟨vs, hv, _⟩ := q; exact .dK hv
      | dit k => cases e; obtain ⟨vs, hv, _⟩ := q; exact .dT hv
  | _ => cases e
theorem BF (K : PySem.W.Frag) : PySem.W.kitOne K (.type "int") (.type "int") = some true /\ PySem.W.kitOne K (.type "bool") (.type "int") = some true /\ PySem.W.kitOne K (.type "NoneType") (.type "int") = some false /\ PySem.W.kitOne K (.type "str") (.type "int") = some false
    /\ PySem.W.kitOne K (.type "tuple") (.type "int") = some false /\ PySem.W.kitOne K (.type "list") (.type "int") = some false /\ PySem.W.kitOne K (.type "dict") (.type "int") = some false := ⟨rfl, rfl, rfl, rfl, rfl, rfl, rfl⟩
theorem Az (K : PySem.W.Frag) : PySem.W.kitOne K (.type "int") (.type "bool") = some false /\ PySem.W.kitOne K (.type "bool") (.type "bool") = some true /\ PySem.W.kitOne K (.type "NoneType") (.type "bool") = some false /\ PySem.W.kitOne K (.type "str") (.type "bool") = some false
    /\ PySem.W.kitOne K (.type "tuple") (.type "bool") = some false /\ PySem.W.kitOne K (.type "list") (.type "bool") = some false /\ PySem.W.kitOne K (.type "dict") (.type "bool") = some false := ⟨rfl, rfl, rfl, rfl, rfl, rfl, rfl⟩
theorem kit_tuple (K : PySem.W.Frag) : PySem.W.kitOne K (.type "int") (.type "tuple") = some false /\ PySem.W.kitOne K (.type "bool") (.type "tuple") = some false /\ PySem.W.kitOne K (.type "NoneType") (.type "tuple") = some false /\ PySem.W.kitOne K (.type "str") (.type "tuple") = some false
    /\ PySem.W.kitOne K (.type "tuple") (.type "tuple") = some true /\ PySem.W.kitOne K (.type "list") (.type "tuple") = some false /\ PySem.W.kitOne K (.type "dict") (.type "tuple") = some false := ⟨rfl, rfl, rfl, rfl, rfl, rfl, rfl⟩
theorem Aq (K : PySem.W.Frag) : PySem.W.kitOne K (.type "int") (.type "list") = some false /\ PySem.W.kitOne K (.type "bool") (.type "list") = some false /\ PySem.W.kitOne K (.type "NoneType") (.type "list") = some false /\ PySem.W.kitOne K (.type "str") (.type "list") = some false
    /\ PySem.W.kitOne K (.type "tuple") (.type "list") = some false /\ PySem.W.kitOne K (.type "list") (.type "list") = some true /\ PySem.W.kitOne K (.type "dict") (.type "list") = some false := ⟨rfl, rfl, rfl, rfl, rfl, rfl, rfl⟩
theorem Cb (K : PySem.W.Frag) : PySem.W.kitOne K (.type "int") (.type "str") = some false /\ PySem.W.kitOne K (.type "bool") (.type "str") = some false /\ PySem.W.kitOne K (.type "NoneType") (.type "str") = some false /\ PySem.W.kitOne K (.type "str") (.type "str") = some true
    /\ PySem.W.kitOne K (.type "tuple") (.type "str") = some false /\ PySem.W.kitOne K (.type "list") (.type "str") = some false /\ PySem.W.kitOne K (.type "dict") (.type "str") = some false := ⟨rfl, rfl, rfl, rfl, rfl, rfl, rfl⟩
theorem Fx {t n : String} {b : Bool} (e : xy t n = some b) : PySem.W.kitOne K (.type t) (.type n) = some b := by
  unfold xy at e
  obtain ⟨a1, a2, a3, a4, a5, a6, a7⟩ := BF K
  obtain ⟨b1, b2, b3, b4, b5, b6, b7⟩ := Az K
  obtain ⟨c1, c2, c3, c4, c5, c6, c7⟩ := kit_tuple K
  obtain ⟨d1, d2, d3, d4, d5, d6, d7⟩ := Aq K
  obtain ⟨e1, e2, e3, e4, e5, e6, e7⟩ := Cb K
  split at e
  · rename_i hn; subst hn
    split at e
    · rename_i h; subst h; cases e; exact a1
    · split at e
      · rename_i h; subst h; cases e; exact a2
      · split at e
        · rename_i h; cases e; rcases h with rfl | rfl | rfl | rfl | rfl <;> assumption
        · cases e
  · split at e
    · rename_i hn
      split at e
      · rename_i h; subst h; cases e; rcases hn with rfl | rfl | rfl | rfl <;> assumption
      · rename_i hne
        split at e
        · rename_i h; cases e; rcases hn with rfl | rfl | rfl | rfl <;> rcases h with rfl | rfl | rfl | rfl | rfl | rfl | rfl <;> first | assumption | exact absurd rfl hne
        · cases e
    · cases e
theorem sY {e : Expr} {me : ME} {n : String} {x : Str} {p1 p2 pos : Pos} (he : PE X e (tM X.K g ε me)) (hg : Gl X "isinstance") (hm : X.mg "isinstance" = none) (hg2 : Gl X x) (hm2 : X.mg x = none) (hb : bootBuiltins x = some (.type n)) (hn : x ≠ "__name__" := by decide) (hd : (x == ("__debug__" : Str)) = false := by decide)
    (hs1 : starEach [e, .Name x p2] X.env = (false, eval e X.env) :: starEach [.Name x p2] X.env := by rfl) (hs2 : starEach [.Name x p2] X.env = [(false, eval (.Name x p2) X.env)] := by rfl) (hpl : (backTo pos (starEach [.Name x p2] X.env)).any (·.1) = false := by rfl) :
    PE X (.Call (.Name "isinstance" p1) [e, .Name x p2] [] pos) (tM X.K g ε (cUn (tj n) me)) :=
  PE.imp (ux u0 hg hm PyProof.Rows.boot_isinstance (lE he (lE (CU (v := .ty n) hg2 hm2 hb rfl hn hd) r9 hs2) hs1) (by decide) (by decide) hs1 hpl) fun σ H Q ⟨α, env, h, s, w⟩ => tM.use s w.bind fun d1 h1 v1 H1 α1 e1 s1 r1 w1 => by
    unfold tj at w1
    cases et : tyD d1 h1 with
    | none => simp only [et] at w1; exact w1.elim
    | some t =>
      simp only [et] at w1
      cases es : xy t n with
      | none => simp only [es] at w1; exact w1.elim
      | some b =>
        simp only [es] at w1
        exact ⟨v1, .type t, n, b, rfl, GJ s1.heap r1 et, Fx es, aX.now (aX.ext e1 w1) s1.heap (.bl b)⟩
end
section
variable {X : Cx} {K : PySem.W.Frag} {g : GG} {ε : EE}
noncomputable def om : D -> Hh -> R Bool := fun d h => match d with
  | .non => .ok false h
  | .bl b => .ok b h
  | .int i => .ok (i != 0) h
  | .tup ds => .ok (!ds.isEmpty) h
  | .frl ds => .ok (!ds.isEmpty) h
  | .ref n => match aH h n with
    | some ds => .ok (!ds.isEmpty) h
    | none => .bad
  | _ => .bad
theorem az.isEmpty {α : List Addr} {H : Hp} {ds : List D} {vs : List V} (r : az K g α H ds vs) : ds.isEmpty = vs.isEmpty := by cases r <;> rfl
theorem kz : FY K g ε om (fun x H Q => ∃ k, Dx K x H k /\ Q k H) := by
  intro α H h a x Q r ra w
  unfold om at w
  have now : ∀ {b : Bool}, mH K g α H Q b h -> Q b H := fun p => p H α Ext.refl r
  cases ra with
  | non => exact ⟨false, rfl, now w⟩
  | bl b => exact ⟨b, rfl, now w⟩
  | int i => exact ⟨_, rfl, now w⟩
  | tup hp rs => exact ⟨_, .inr (.inl ⟨_, SqT.of hp, rfl⟩), now (by rw [<- rs.isEmpty]; exact w)⟩
  | frl hp rs => exact ⟨_, .inl ⟨_, hp.sq, rfl⟩, now (by rw [<- rs.isEmpty]; exact w)⟩
  | @ref n p hp =>
    simp only at w
    cases e : aH h n with
    | none => rw [e] at w; exact w.elim
    | some ds =>
      rw [e] at w
      obtain ⟨vs, hv, rs⟩ := r.lst e hp
      exact ⟨_, .inl ⟨vs, SqL.of hv, rfl⟩, now (by rw [<- rs.isEmpty]; exact w)⟩
  | _ => exact w.elim
noncomputable def yL : List D -> Option (List D)
  | [.int j] => if j.natAbs <= 1000000 then some (bb 0 j.toNat) else none
  | [.int i, .int j] => if (i.natAbs <= 1000000 /\ j.natAbs <= 1000000) /\ (j - i).toNat <= 1000000 then some (bb i (j - i).toNat) else none
  | _ => none
noncomputable def gf (nl : NL) : List D -> Hh -> R D := fun ds h => match yL ds with
  | some xs => nl xs h
  | none => .bad
theorem zx (lo : Int) (n : Nat) {α : List Addr} {H : Hp} : az K g α H (bb lo n) ((qq lo 1 n).map V.int) := by
  have e : bb lo n = (qq lo 1 n).map D.int := by
    unfold bb qq
    rw [List.map_map]
    apply List.map_congr_left
    intro i _
    simp
  rw [e]
  exact az.ints _
theorem C9 {α : List Addr} {H : Hp} {ds : List D} {vs : List V} {xs : List D} (r : az K g α H ds vs) (e : yL ds = some xs) :
    (∃ j, vs = [.int j] /\ pR 0 j 1 j.toNat /\ xs = bb 0 j.toNat) \/ ∃ i j, vs = [.int i, .int j] /\ pR i j 1 (j - i).toNat /\ xs = bb i (j - i).toNat := by
  unfold yL at e
  split at e
  · rename_i j
    split at e
    · rename_i hj
      cases e
      cases r with
      | cons r1 t =>
        cases r1
        cases t
        refine .inl ⟨j, rfl, ?_, rfl⟩
        have := AF (a := 0) (b := j) (by omega) (by omega) (by omega) (by omega) (by omega)
        rw [Int.sub_zero] at this
        exact this
    · cases e
  · rename_i i j
    split at e
    · rename_i hj
      cases e
      cases r with
      | cons r1 t =>
        cases r1
        cases t with
        | cons r2 t =>
          cases r2
          cases t
          exact .inr ⟨i, j, rfl, AF (by omega) (by omega) (by omega) (by omega) (by omega), rfl⟩
    · cases e
  · cases e
theorem Fc : bO X (.type "range") (fun vs H Q => (∃ j, vs = [.int j] /\ ∀ p, H p = none -> Q (.ref p) (upd H p (rJ p 0 j 1))) \/ ∃ i j, vs = [.int i, .int j] /\ ∀ p, H p = none -> Q (.ref p) (upd H p (rJ p i j 1))) := bO.or yd xS
section
variable {e : Expr} {es : List Expr} {mr : MA} {p1 p2 q1 q2 : Pos}
theorem pG {nl : NL} [iN nl] (hc : X.calm = true) (hg : Gl X "list") (hm : X.mg "list" = none) (hg2 : Gl X "range") (hm2 : X.mg "range" = none) (ha : PA X (e :: es) (tMA X.K g ε mr))
    (he : starEach (e :: es) X.env = (false, eval e X.env) :: starEach es X.env := by rfl) (hpl : (backTo q2 (starEach es X.env)).any (·.1) = false := by rfl)
    (he1 : starEach [.Call (.Name "range" p2) (e :: es) [] q2] X.env = [(false, eval (.Call (.Name "range" p2) (e :: es) [] q2) X.env)] := by rfl) (hpl1 : (backTo q1 (starEach [] X.env)).any (·.1) = false := by rfl) :
    PE X (.Call (.Name "list" p1) [.Call (.Name "range" p2) (e :: es) [] q2] [] q1) (tM X.K g ε (ah (gf nl) mr)) :=
  PE.imp (PE.frz (mn (qv hc) hg hm PyProof.Rows.boot_list (lE (mn Fc hg2 hm2 PyProof.Rows.boot_range ha (by decide) (by decide) he hpl) r9 he1) (by decide) (by decide) he1 hpl1)) fun σ H Q ⟨α, env, h, s, w⟩ => tMA.use s w.bind fun d1 h1 v1 H1 α1 e1 s1 r1 w1 => by
    unfold gf at w1
    cases er : yL d1 with
    | none => rw [er] at w1; exact w1.elim
    | some xs =>
      rw [er] at w1
      rcases C9 r1 er with ⟨j, rfl, ok, rfl⟩ | ⟨i, j, rfl, ok, rfl⟩
      · refine .inl ⟨j, rfl, fun p hp => ⟨p, 0, j, 1, j.toNat, rfl, aY, ok, fun l hl => ?_⟩⟩
        have x := Ext.fresh (K := X.K) (α := α1) (o := rJ p 0 j 1) hp
        exact NL.post ((w1.post e1).post x) (s1.heap.grow hp) (zx 0 j.toNat) hl
      · refine .inr ⟨i, j, rfl, fun p hp => ⟨p, i, j, 1, (j - i).toNat, rfl, aY, ok, fun l hl => ?_⟩⟩
        have x := Ext.fresh (K := X.K) (α := α1) (o := rJ p i j 1) hp
        exact NL.post ((w1.post e1).post x) (s1.heap.grow hp) (zx i (j - i).toNat) hl
end
noncomputable def isL (d : D) (h : Hh) : Bool := match d with
  | .ref n => (aH h n).isSome
  | .frl _ => true
  | _ => false
noncomputable def fe (f : D -> List D -> Hh -> R D) (o : ME) (a : MA) : ME := fun env h => (o env h).bind fun x h1 => if isL x h1 = true then (a env h1).bind fun xs h2 => f x xs h2 else .bad
theorem BN {α : List Addr} {H : Hp} {h : Hh} {d : D} {x : V} (r : bh K g α H h) (rd : aU K g α H d x) (e : isL d h = true) : tyV K "list" x H := by
  unfold isL at e
  cases rd with
  | @ref n p hp =>
    simp only at e
    obtain ⟨ds, e⟩ := Option.isSome_iff_exists.mp e
    obtain ⟨vs, hv, _⟩ := r.lst e hp
    exact .inl ⟨rfl, vs, SqL.of hv⟩
  | frl hq rs => exact .inl ⟨rfl, _, hq.sq⟩
  | _ => cases e
theorem sU {o e : Expr} {es : List Expr} {mo : ME} {mr : MA} {name : Str} {apos cpos : Pos} {id : String} {r : V -> List V -> Hp -> VK -> Prop} {f : D -> List D -> Hh -> R D} (slot : Slot "list" name id) (hty : typeOf (.builtin id) = pure (.type "method_descriptor")) (hm : MtM X id r) (im : As X.K g ε f r) (ho : PE X o (tM X.K g ε mo)) (ha : PA X (e :: es) (tMA X.K g ε mr))
    (hbase : attributeBase o name X.env (eval o X.env) = eval o X.env := by rfl)
    (hfew : ((backTo cpos (starEach (e :: es) X.env)).all (fun x => !x.1) && (backToKw cpos (keywordEach [] X.env)).all (fun x => x.1.isSome)
      && decide ((e :: es).length + ([] : List Keyword).length + (if ([] : List Keyword).isEmpty then 0 else 1) < 30)) = true := by rfl)
    (hline : (apos.endLine == cpos.line) = true := by rfl) (hs : starEach (e :: es) X.env = (false, eval e X.env) :: starEach es X.env := by rfl) (hplain : (backTo cpos (starEach es X.env)).any (·.1) = false := by rfl) :
    PE X (.Call (.Attribute o name apos) (e :: es) [] cpos) (tM X.K g ε (fe f mo mr)) :=
  PE.imp (DY PySem.F.plainAttrs_list slot hty hm ho ha hbase hfew hline hs hplain) fun σ H Q ⟨α, env, h, s, w⟩ => tM.use s w.bind fun d1 h1 v1 H1 α1 e1 s1 r1 w1 => by
    obtain ⟨hl, w1⟩ := WQ.e_ w1
    refine ⟨BN s1.heap r1 hl, tMA.use s1 (w1.ext e1).bind fun d2 h2 v2 H2 α2 e2 s2 r2 w2 => ?_⟩
    exact im α2 H2 h2 d1 d2 v1 v2 Q s2.heap (r1.ext e2) r2 ((w2.ext e2).mono fun _ _ _ p => aX.ext (e1.trans e2) p)
noncomputable def du : D -> List D -> Hh -> R D := fun o ds h => match o, ds with
  | .ref n, [d] => match aH h n with
    | some xs => if xs.length < 1000000 then .ok .non (h.set n (.lst (xs ++ [d]))) else .bad
    | none => .bad
  | _, _ => .bad
theorem l5 : As K g ε du xw := by
  intro α H h o a y x Q r ro ra w
  unfold du at w
  cases ro with
  | @ref n p hp =>
    cases ra with
    | nil => exact w.elim
    | @cons d v _ _ rd rr =>
      cases rr with
      | cons _ _ => exact w.elim
      | nil =>
        simp only at w
        cases e : aH h n with
        | none => rw [e] at w; exact w.elim
        | some xs =>
          rw [e] at w
          obtain ⟨hl, w⟩ := WQ.e_ w
          obtain ⟨vs, hv, rs⟩ := r.lst e hp
          refine ⟨p, vs, _, rfl, rfl, hv, by rw [<- rs.length, sizeLine_eq]; omega, ?_⟩
          have x := Ext.write (o := .lst (vs ++ [v])) r hp
          exact (show aX K g α H Q _ _ from w) _ _ α x (r.write hp ⟨_, aY, (rs.append (.cons rd .nil)).ext x⟩) .non
  | _ => exact w.elim
noncomputable def tZ : D -> List D -> Hh -> R D := fun o ds h => match o, ds with
  | .ref n, [.int i] => match aH h n with
    | some xs => match ixN xs.length i with
      | some k => match xs[k]? with
        | some d => if xs.length <= 1000000 then .ok d (h.set n (.lst (xs.eraseIdx k))) else .bad
        | none => .bad
      | none => .bad
    | none => .bad
  | _, _ => .bad
theorem Fs : As K g ε tZ Ao := by
  intro α H h o a y x Q r ro ra w
  unfold tZ at w
  cases ro with
  | @ref n p hp =>
    cases ra with
    | nil => exact w.elim
    | cons rd rr =>
      cases rr with
      | cons _ _ => cases rd <;> exact w.elim
      | nil =>
        cases rd with
        | int i =>
          simp only at w
          cases e : aH h n with
          | none => rw [e] at w; exact w.elim
          | some xs =>
            rw [e] at w
            simp only at w
            cases e2 : ixN xs.length i with
            | none => rw [e2] at w; exact w.elim
            | some k =>
              rw [e2] at w
              simp only at w
              cases e3 : xs[k]? with
              | none => rw [e3] at w; exact w.elim
              | some d =>
                rw [e3] at w
                obtain ⟨hl, w⟩ := WQ.e_ w
                obtain ⟨vs, hv, rs⟩ := r.lst e hp
                obtain ⟨v, ev, rv⟩ := rs.get e3
                obtain ⟨h1, h2, h3, h4⟩ := tG e2
                refine ⟨p, vs, i, k, v, rfl, rfl, hv, ?_, ?_, by rw [<- rs.length]; exact h1, ev, ?_⟩
                · omega
                · omega
                · have x := Ext.write (o := .lst (vs.eraseIdx k)) r hp
                  exact (show aX K g α H Q _ _ from w) _ _ α x (r.write hp ⟨_, aY, (rs.erase k).ext x⟩) (rv.ext x)
        | _ => exact w.elim
  | _ => exact w.elim
theorem mS (ns : List Int) : ∀ k, k <= ns.length -> preSum (fun i => ns.getD i 0) k = (ns.take k).sum
  | 0, _ => by simp [preSum]
  | k + 1, h => by
    rw [preSum, mS ns k (by omega), List.take_succ, List.sum_append]
    rw [List.getD_eq_getElem?_getD, List.getElem?_eq_getElem (by omega)]
    simp
theorem l7 (hc : X.calm = true) : bO X (.builtin "sum") (fun vs H Q => ∃ (p : Addr) (ns : List Int), vs = [.ref p] /\ (SqL X.K H p (ns.map V.int) \/ SqT X.K H p (ns.map V.int)) /\ Q (.int ns.sum) H) := by
  intro pins s σ H xs us Q I r h
  obtain ⟨p, ns, rfl, hq, q⟩ := h
  obtain ⟨u, rfl, rx⟩ := vals1 r
  cases rx
  have hh : X.A.in1.handled = none := I.ok.hd hc
  have fin : ∀ {its : List Value} {o : Obj}, Vals (ns.map V.int) its -> ∀ s', Moved [s.heap.objs.size] (fun a b => b = a) { s with heap := s.heap.push o } s' -> ∀ t', EP X pins σ Q (.int (preSum (fun i => ns.getD i 0) its.toArray.size) t') s' := fun {its o} rv s' mv t' => by
    have hl : its.toArray.size = ns.length := by rw [List.size_toArray, <- rv.length, List.length_map]
    have keep : ∀ b u, s.heap.get? b = some u -> s'.heap.get? b = some u := fun b u e => mv.heap b u (by simp; exact Nat.ne_of_lt (Heap.lt_size e)) (Heap.get?_push_of_some _ e)
    have I' : Inv X pins σ H s' := by
      obtain ⟨hp, gs, dr, tk, os⟩ := s'
      have e1 : gs = s.gens := mv.gens
      have e2 : dr = s.drawn := mv.drawn
      have e3 : os = s.os := mv.os
      subst e1 e2 e3
      exact I.kept (h' := hp) (t' := tk) keep
    refine ⟨.int ns.sum, H, I', ⟨t', ?_⟩, q⟩
    rw [hl, mS ns _ (Nat.le_refl _), List.take_length]
  have val : ∀ {its : List Value}, Vals (ns.map V.int) its -> ∀ i v, its.toArray[i]? = some v -> ∃ t : Tok, v = Value.int (ns.getD i 0) t := fun {its} rv i v e => by
    obtain ⟨x, hx, rxv⟩ := rv.get' (show its[i]? = some v by simpa using e)
    rw [List.getElem?_map] at hx
    cases en : ns[i]? with
    | none => rw [en] at hx; cases hx
    | some z =>
      rw [en] at hx
      cases hx
      obtain ⟨t, e⟩ := rxv
      exact ⟨t, by rw [List.getD_eq_getElem?_getD, en]; exact e⟩
  rcases hq with hq | hq
  · obtain ⟨its, rv, pl, hz⟩ := I.list hq
    have plt : p < s.heap.objs.size := by obtain ⟨o, e, _⟩ := pl.isList; exact Heap.lt_size e
    have hne : p ≠ s.heap.objs.size := Nat.ne_of_lt plt
    refine call_sum_walkAnyS (wpAny_pyIter_list pl.isList ?_)
    refine ⟨s.heap.objs.size, _, _, _, its.toArray.size, _, _, fun i => ns.getD i 0, rfl, (Walks.list (prog := X.prog) (w := X.w) hh s.heap.objs.size p hne its.toArray).toS, ⟨⟨_, Heap.get?_push_size _ rfl, rfl, rfl⟩, ?_⟩, fun b hb => ?_, val rv, fun s' t' mv => fin rv s' mv t'⟩
    · exact pl.isList.at fun o e => Heap.get?_push_of_some _ e
    · simp at hb
      rcases hb with rfl | rfl
      · exact Heap.lt_size (Heap.get?_push_size _ rfl)
      · exact Nat.lt_trans plt (Heap.lt_size (Heap.get?_push_size _ rfl))
  · obtain ⟨its, rv, pl, hz⟩ := I.tuple hq
    have pt : s.heap.IsTuple p its.toArray := pl
    have hne : p ≠ s.heap.objs.size := Nat.ne_of_lt pl.lt
    refine call_sum_walkAnyS (wpAny_pyIter_tuple pt ?_)
    refine ⟨s.heap.objs.size, _, _, _, its.toArray.size, _, _, fun i => ns.getD i 0, rfl, (Walks.tuple (prog := X.prog) (w := X.w) hh s.heap.objs.size p hne its.toArray).toS, ⟨⟨_, Heap.get?_push_size _ rfl, rfl, rfl⟩, ?_⟩, fun b hb => ?_, val rv, fun s' t' mv => fin rv s' mv t'⟩
    · exact pt.at fun o e => Heap.get?_push_of_some _ e
    · simp at hb
      rcases hb with rfl | rfl
      · exact Heap.lt_size (Heap.get?_push_size _ rfl)
      · exact Nat.lt_trans pl.lt (Heap.lt_size (Heap.get?_push_size _ rfl))
noncomputable def nA : List D -> Hh -> R D := fun ds h => match ds with
  | [d] => match iT d h with
    | some xs => match intsOf xs with
      | some ns => .ok (.int ns.sum) h
      | none => .bad
    | none => .bad
  | _ => .bad
theorem vO : lQ K g ε nA (fun vs H Q => ∃ (p : Addr) (ns : List Int), vs = [.ref p] /\ (SqL K H p (ns.map V.int) \/ SqT K H p (ns.map V.int)) /\ Q (.int ns.sum) H) := by
  intro α H h a x Q r ra w
  obtain ⟨d, v, rfl, rfl, rd⟩ := kg (f := nA) (fun _ _ _ _ => rfl) (fun _ => rfl) ra w
  unfold nA at w
  simp only at w
  cases e : iT d h with
  | none => rw [e] at w; exact w.elim
  | some ds =>
    rw [e] at w
    simp only at w
    cases e2 : intsOf ds with
    | none => rw [e2] at w; exact w.elim
    | some ns =>
      rw [e2] at w
      obtain ⟨p, vs, rfl, hq, rs⟩ := rW r rd e
      have e3 := dy e2
      subst e3
      have e4 := rs.qT
      subst e4
      exact ⟨p, ns, rfl, hq, aX.now w r (.int _)⟩
noncomputable def uz : D -> D -> Hh -> R D
  | .int i, .int j, h => .ok (.int (i + j)) h
  | _, _, _ => .bad
theorem Fu : eE K g ε uz (ipI fun i j => i + j) := by
  intro α H h a b x y Q r ra rb w
  unfold uz at w
  cases ra with
  | int i =>
    cases rb with
    | int j => exact ⟨i, j, rfl, rfl, aX.now w r (.int _)⟩
    | _ => exact w.elim
  | _ => exact w.elim
end
section
variable {P : Program} {w : World} {K : PySem.W.Frag} {mg : Str -> Option Value} {base : Heap} {g : GG}
noncomputable def aL (K : PySem.W.Frag) (mg : Str -> Option Value) (x : Str) (st : Stmt) : Prop := ∃ f fd, mg x = some (.ref f) /\ Fun K x x st f fd
noncomputable def bG (K : PySem.W.Frag) (x : Str) (st : Stmt) : Prop := ∃ f fd, PySem.W.nsIn K mainGlobals x = some (some (.ref f)) /\ Fun K x x st f fd
theorem bj {x : Str} {st : Stmt} {f : Addr} {oc : Value} {od an : Option Addr} {osl : Array (Option Value)} {kV doc pm cdv ct : Value} (a : PySem.W.nsIn K mainGlobals x = some (some (.ref f)))
    (l : K.lookup f = some ⟨oc, od, .func (PySem.W.fnOf x x (kS st) (hZ st) (ar st) .none kV doc pm an cdv ct), osl⟩) (c : PySem.W.codeIn K cdv x = true) (k : PySem.W.keepIn K (.ref f) = true) : bG K x st := ⟨f, _, a, Fv l c k⟩
theorem aL.of {h : Heap} {x : Str} {st : Stmt} (X : K.In h) (G : h.Ns mainGlobals mg) (d : bG K x st) : aL K mg x st :=
  let ⟨f, fd, a, F⟩ := d; ⟨f, fd, PySem.W.mg_of X G a, F⟩
noncomputable def Has (P : Program) (w : World) (K : PySem.W.Frag) (mg : Str -> Option Value) (base : Heap) (g : GG) (x : Str) (k : Nat) (ps : List Str) (m : MF) : Prop :=
  ∃ f fd, fP P w K mg base CX0 k f fd ps (spM K g ps.length m) /\ PySem.W.keepIn K (.ref f) = true /\ Binds K fd ps [] /\ mg x = some (.ref f) /\ ∃ (oc : Value) (od : Option Addr) (osl : Array (Option Value)), K.lookup f = some ⟨oc, od, .func fd, osl⟩
noncomputable def gOf (mg : Str -> Option Value) : GG := fun x => match mg x with
  | some (.ref f) => some f
  | _ => none
theorem aV {x : Str} {st : Stmt} {f : Addr} {fd : FuncData} (F : Fun K x x st f fd) : ∃ (oc : Value) (od : Option Addr) (osl : Array (Option Value)), K.lookup f = some ⟨oc, od, .func fd, osl⟩ := by
  obtain ⟨oc, od, kV, doc, pm, an, cdv, ct, osl, rfl, lk, hcd⟩ := F.ex
  exact ⟨oc, od, osl, lk⟩
theorem Fb {x : Str} {st : Stmt} {f : Addr} {fd : FuncData} {k : Nat} {ps : List Str} {m : MF} (F : Fun K x x st f fd) (hm : mg x = some (.ref f)) (h : Has P w K mg base g x k ps m) : fP P w K mg base CX0 k f fd ps (spM K g ps.length m) := by
  obtain ⟨f2, fd2, G, _, _, hm2, oc, od, osl, l2⟩ := h
  obtain ⟨oc', od', osl', l1⟩ := aV F
  rw [hm] at hm2
  cases hm2
  rw [l1] at l2
  cases l2
  exact G
end
section
variable {X : Cx} {g : GG} {ε : EE}
noncomputable def zL (i j : Nat) (m : ME) : MS := fun env h => (m env h).bind fun d h1 => (gT2 i j d env h1).bind fun e h2 => .ok (.nx e) h2
theorem Hi {i j : Nat} {x y : Str} {e : Expr} {me : ME} {px py pt pos : Pos} {kt} (hc : X.calm = true) (hN : X.N.Nodup) (hi : X.N[i]? = some x) (hj : X.N[j]? = some y) (he : PE X e (tM X.K g ε me))
    (hx : Loc X.env.scope x := by first | exact Or.inl rfl | exact Or.inr rfl) (hy : Loc X.env.scope y := by first | exact Or.inl rfl | exact Or.inr rfl)
    (fx : X.fn x = true \/ X.env.scope.names.lookup x = some .local := by first | exact .inl rfl | exact .inr rfl) (fy : X.fn y = true \/ X.env.scope.names.lookup y = some .local := by first | exact .inl rfl | exact .inr rfl)
    (hs : swapsWithSole [.Tuple [.Name x px, .Name y py] kt pt] e pos.line X.env = pure false := by rfl) (hw : swappedStores [.Tuple [.Name x px, .Name y py] kt pt] e X.env = pure none := by rfl) :
    PS X (.Assign [.Tuple [.Name x px, .Name y py] kt pt] e pos) (tMS X.K g ε (zL i j me)) :=
  PS.imp (AZ he (mD hc (cZ (bw hN hi hx fx) (cZ (bw hN hj hy fy) jK))) hs hw rfl) fun E σ H ⟨α, env, h, s, w⟩ => tM.use s w.bind fun d1 h1 v1 H1 α1 e1 s1 r1 w1 => by
    refine oq (ε := ε) α1 H1 h1 env σ d1 v1 _ s1 r1 ((w1.ext e1).bind.mono fun e' h2 _ w2 σ2 H2 α2 e2 s2 => ?_)
    exact (show cY X.K g α H E (.nx e') h2 from w2) H2 α2 (e1.trans e2) s2.heap σ2 s2.vs
theorem AK {i j : Nat} {x y : Str} {a b : Expr} {ma : MA} {px py pt pos : Pos} {kt k2 pt2} (hc : X.calm = true) (hN : X.N.Nodup) (hi : X.N[i]? = some x) (hj : X.N[j]? = some y) (hij : i ≠ j) (ha : PA X [a, b] (tMA X.K g ε ma))
    (hx : X.env.scope.names.lookup x = some .local := by rfl) (hy : X.env.scope.names.lookup y = some .local := by rfl)
    (hw : swappedStores [.Tuple [.Name x px, .Name y py] kt pt] (.Tuple [a, b] k2 pt2) X.env = pure (some [x, y]) := by rfl)
    (hs : swapsWithSole [.Tuple [.Name x px, .Name y py] kt pt] (.Tuple [a, b] k2 pt2) pos.line X.env = pure false := by rfl) :
    PS X (.Assign [.Tuple [.Name x px, .Name y py] kt pt] (.Tuple [a, b] k2 pt2) pos) (tMS X.K g ε (xY i j ma)) := F_ hc hN hi hj hij hx hy ha hw hs
end
theorem EB {k : Nat} {m : MF} {l : PySem.W.OpenLaw} {q : Program} {loose : List Str} {XP : (Str -> Option Value) -> Heap -> Prop} {YP : World -> Heap -> Prop} {d : DefRec} {K : Params -> PySem.W.Frag} (hn : l.most = some 63) (hdf : d.params.defaults = []) (hr : gX k callerA)
    (hY : ∀ (w : World) (h : Heap), YP w h -> (K w.params).In h)
    (ok : ∀ ns : List Int, ns.length <= 63 -> ∃ h, m [.scr (ns.map D.int)] [] = .ok (.bl true) h)
    (F : ∀ (w : World) (mg : Str -> Option Value) (fa : Addr) (h : Heap), (K w.params).In h -> h.Ns mainGlobals mg -> mg d.name = some (.ref fa) →
      ∃ fd : FuncData, (∀ (s : Shared) (u : Value), BindsTo s fd ⟨[u], []⟩ [("_law_script", u)]) /\ ∀ base : Heap, (K w.params).In base -> base.Ns mainGlobals mg -> fP l.prog w (K w.params) mg base CX0 k fa fd ["_law_script"] (spM (K w.params) (gOf mg) 1 m)) :
    PySem.W.WalkO q loose XP YP l.row.toRowW d [] (fun f vs => PySem.call f vs) := by
  refine L2.Cd (n := 63) (k := k) (x := "_law_script") (CX := fun _ => CX0) (sp := fun w => fun vs H Q _ => ∃ a ns, vs = [V.ref a] /\ ns.length <= 63 /\ BX H /\ SqL (K w.params) H a (ns.map V.int) /\ ∀ v H', v = V.bl true -> Q v H') hn (by decide) hdf hr hY (fun w mg fa h KX G hmg => ?_) (fun w H a ns hl hO hS => ⟨a, ns, rfl, hl, hO, hS, fun _ _ z => z⟩) fun _ _ _ _ _ z => z
  obtain ⟨fd, hb, hF⟩ := F w mg fa h KX G hmg
  refine ⟨fd, hb, fun base kb nb => (hF base kb nb).imp fun vs H Q E z => ?_⟩
  obtain ⟨a, ns, rfl, hl, hO, hS, hQ⟩ := z
  obtain ⟨hh, e⟩ := ok ns hl
  refine ⟨rfl, [], [.scr (ns.map D.int)], [], .cons (.scr ?_ (az.ints ns)) .nil, ⟨rfl, fun n m p z => by simp at z, fun n p o z => by simp at z⟩, ?_⟩
  · rcases hS with (hS | ⟨o, hS⟩) | hS
    · rcases hO a with z | ⟨o, xs, z⟩
      · rw [hS] at z; cases z
      · rw [hS] at z; cases z
    · exact .inl ⟨o, hS⟩
    · exact .inr hS
  · rw [e]
    intro v H' α' _ _ rd
    cases rd
    exact hQ _ _ rfl
section
variable {X : Cx} {K : PySem.W.Frag} {g : GG} {ε : EE}
noncomputable def qD (neg : Bool) : D -> D -> Hh -> R D := fun a b h => match a, b with
  | .bl x, .bl true => .ok (.bl (if neg then !x else x)) h
  | _, _ => .bad
noncomputable def El (neg : Bool) : R2 := fun x y H Q => ∃ b, x = .bl b /\ y = .bl true /\ Q (.bl (if neg then !b else b)) H
theorem xm : OpR X (compareOp .IsNot) (El true) := by
  intro pins s σ H x y v u Q I rx ry ⟨b, e1, e2, q⟩
  subst e1 e2
  cases rx; cases ry
  exact isnot_bool ⟨.bl (b != true), H, I, rfl, by cases b <;> exact q⟩
theorem Fo {neg : Bool} : eE K g ε (qD neg) (El neg) := by
  intro α H h a b x y Q r ra rb w
  unfold qD at w
  cases ra with
  | bl b1 =>
    cases rb with
    | bl b2 =>
      cases b2 with
      | true => exact ⟨b1, rfl, rfl, aX.now w r (.bl _)⟩
      | false => exact w.elim
    | _ => exact w.elim
  | _ => exact w.elim
theorem xB : eE K g ε (qD true) (El true) := Fo
noncomputable def mI (lo st : Int) (n : Nat) : List D := (qq lo st n).map D.int
noncomputable def Ad : List D -> Option (List D)
  | [.int a, .int b, .int c] => if Builtin.Range.small a b c = true /\ 0 <= Builtin.Range.rangeSize a b c /\ (Builtin.Range.rangeSize a b c).natAbs <= 1000000 /\ c ≠ 0 /\ c.natAbs < 1073741824 then some (mI a c (Builtin.Range.rangeSize a b c).toNat) else none
  | _ => none
theorem Bq {α : List Addr} {H : Hp} {ds : List D} {vs : List V} {xs : List D} (r : az K g α H ds vs) (e : Ad ds = some xs) :
    ∃ a b c n, vs = [.int a, .int b, .int c] /\ c ≠ 0 /\ c.natAbs < 1073741824 /\ pR a b c n /\ xs = mI a c n := by
  unfold Ad at e
  split at e
  · rename_i a b c
    split at e
    · rename_i hc
      cases e
      cases r with
      | cons r1 t =>
        cases t with
        | cons r2 t =>
          cases t with
          | cons r3 t =>
            cases t; cases r1; cases r2; cases r3
            exact ⟨a, b, c, _, rfl, hc.2.2.2.1, hc.2.2.2.2, ⟨hc.1, by omega, by omega⟩, rfl⟩
    · cases e
  · cases e
noncomputable def yc : D -> D -> Hh -> R D := fun a b h => match a with
  | .ref n => dIx (.ref n) b h
  | _ => .bad
noncomputable def sA (o i v : ME) : MS := fun env h => (o env h).bind fun x h1 => (i env h1).bind fun y h2 => (yc x y h2).bind fun z h3 => (v env h3).bind fun u h4 => (uz z u h4).bind fun t h5 => (cF x y t h5).bind fun _ h6 => .ok (.nx env) h6
theorem Dd : GA X (fun x y H Q => EG X.K x y H Q) := by
  intro pins s σ H o i ov iv Q I ro ri h
  obtain ⟨p, xs, k, z, rfl, rfl, hq, he, q⟩ := h
  cases ro
  obtain ⟨t, rfl⟩ := ri
  obtain ⟨its, r, pl, hz⟩ := I.list hq
  obtain ⟨j, h1, h2, h3, h4, h5⟩ := nQ he
  obtain ⟨w, ew, rw'⟩ := r.get h2
  have hl := r.length
  have hn := ju
  have fin : EP X pins σ Q w s := ⟨z, H, I, rw', q⟩
  by_cases h0 : 0 <= k
  · have hj : k.toNat = j := by
      rw [seqIndex_of h0 h5] at h1
      exact Option.some.inj h1
    exact wpAny_getItem_list pl.isList h0 (by omega) (by rw [hj]; simpa using ew) fin
  · have hj : (k + (its.toArray.size : Int)).toNat = j := by
      rw [seqIndex_neg (by omega) h4] at h1
      rw [List.size_toArray, <- hl]
      exact Option.some.inj h1
    exact wpAny_getItem_list_neg pl.isList (by omega) (by rw [List.size_toArray] <;> omega) (by omega) (by rw [hj]; simpa using ew) fin
theorem Dm {o i e : Expr} {mo mi me : ME} {tpos pos : Pos} (ho : PE X o (tM X.K g ε mo)) (hi : PE X i (tM X.K g ε mi)) (he : PE X e (tM X.K g ε me))
    (ha : ∀ ov iv new, augStore i ov iv new = (do holding [new, ov, iv] (setItem ov iv new); release [new, ov, iv] []; pure .next) := by intros; rfl) : PS X (.AugAssign (.Subscript o i tpos) .Add e pos) (tMS X.K g ε (sA mo mi me)) :=
  PS.imp (Dh ho hi Dd he Ez set_list ha) fun E σ H ⟨α, env, h, s, w⟩ => tM.use s w.bind fun d1 h1 v1 H1 α1 e1 s1 r1 w1 => tM.use s1 (w1.ext e1).bind fun d2 h2 v2 H2 α2 e2 s2 r2 w2 => by
    have w3 := (w2.ext e2).bind
    have r1' := r1.ext e2
    unfold yc at w3
    cases r1' with
    | @ref n p hp =>
      simp only [dIx] at w3
      cases eq : iT (.ref n) h2 with
      | none => simp only [eq] at w3; exact w3.elim
      | some ds =>
        simp only [eq] at w3
        cases r2 with
        | int k =>
          cases ea : atI ds k with
          | none => simp only [ea] at w3; exact w3.elim
          | some z =>
            simp only [ea] at w3
            have w4 : WQ X.K g ε α2 H2 ((me env h2).bind _) _ := w3
            have eq' : aH h2 n = some ds := eq
            obtain ⟨vs', hv', rs'⟩ := s2.heap.lst eq' hp
            obtain ⟨v', ev', rv'⟩ := xc rs' ea
            refine ⟨p, vs', k, v', rfl, rfl, SqL.of hv', ev', tM.use s2 w4.bind fun d3 h3 v3 H3 α3 e3 s3 r3 w5 => ?_⟩
            refine Fu (K := X.K) (g := g) (ε := ε) α3 H3 h3 z d3 v' v3 _ s3.heap (rv'.ext e3) r3 ((w5.ext e3).bind.mono fun t h4 _ w6 v4 H4 α4 e4 hr4 r4 => ?_)
            refine f6 (K := X.K) (g := g) (ε := ε) α4 H4 h4 (.ref n) (.int k) t (.ref p) (.int k) v4 _ hr4 (.ref ((e3.trans e4).get hp)) (.int k) r4 (((w6.ext e4)).bind.mono fun _ h5 _ w7 H5 α5 e5 hr5 => ?_)
            exact (show cY X.K g α H E (.nx env) h5 from w7) H5 α5 (e1.trans (e2.trans (e3.trans (e4.trans e5)))) hr5 _ (s3.vs.ext (e4.trans e5))
        | _ => exact w3.elim
    | _ => exact w3.elim
theorem yq (its : List Value) : slicePick its.toArray none none (some (-1)) = its.reverse.toArray := by
  have h := u3 its.toArray
  unfold slicePick
  have e1 : sliceBounds none none (some (-1)) its.toArray.size = ((its.toArray.size : Int) - 1, -1, -1) := rfl
  rw [e1]
  have e2 : sliceRange ((its.toArray.size : Int) - 1) (-1) (-1) = (List.range its.toArray.size).map fun (k : Nat) => ((its.toArray.size : Int) - 1 + (k : Int) * (-1)).toNat := by
    unfold sliceRange
    have e3 : (if (-1 : Int) > 0 then (if ((its.toArray.size : Int) - 1) < -1 then (-1 - ((its.toArray.size : Int) - 1) + -1 - 1) / -1 else 0) else (if ((its.toArray.size : Int) - 1) > -1 then (((its.toArray.size : Int) - 1) - -1 - -1 - 1) / (- -1) else 0)).toNat = its.toArray.size := by
      rw [if_neg (by decide), show (- -1 : Int) = 1 by decide, Int.ediv_one]
      split <;> omega
    simp only
    rw [e3]
    apply List.map_congr_left
    intro k _
    congr 1
    omega
  rw [e2, List.filterMap_map]
  exact h
noncomputable def Gg (K : PySem.W.Frag) (te : TE) : TE := fun σ H Q => te σ H fun x H1 => ∃ a xs, x = .ref a /\ ((SqT K H1 a xs /\ ∀ p, H1 p = none -> Q (.ref p) (upd H1 p (.tup xs.reverse))) \/ (SqL K H1 a xs /\ ∀ p, H1 p = none -> Q (.ref p) (upd H1 p (.lst xs.reverse))))
theorem CC {e : Expr} {te : TE} {j p1 p2 p3 pos} (he : PE X e te) : PE X (.Subscript e (.Slice none none (some (.UnaryOp .USub (.Constant (.int 1) j p1) p3)) p2) pos) (Gg X.K te) := by
  intro pins s σ H Q I h
  refine Subscript_ (thn (he pins s σ H _ I h) fun v s1 ⟨x, H1, I1, r1, q1⟩ => ?_)
  obtain ⟨a, xs, rfl, q⟩ := q1
  cases r1
  refine wpAny_Slice (evalPart_none_step (evalPart_none_step (evalPart_some_step ?_)))
  refine thn (DG (X := X) jB Ar pins s1 σ H1 (fun v H' => v = .int (-1) /\ H' = H1) I1 ⟨1, rfl, rfl, rfl⟩) fun u s2 ⟨v2, H2, I2, r2, e1, e2⟩ => ?_
  subst e1 e2
  obtain ⟨tk, rfl⟩ := r2
  have I4 : Inv X pins σ H2 { s2 with heap := s2.heap.push { cls := .type "slice", data := .fields #[.none, .none, .int (-1) tk] } } := I2.kept (t' := s2.toks) fun b ob q => Heap.get?_push_of_some _ q
  rcases q with ⟨hx, q⟩ | ⟨hx, q⟩
  · obtain ⟨its, r, ht, hz⟩ := I4.tuple hx
    have hlen : its.toArray.size = xs.length := by rw [List.size_toArray]; exact r.length.symm
    refine tail_any (ops := [.ref a, .ref s2.heap.objs.size]) ht.typeIs PyProof.Rows.slot_tuple_getitem.lookup (k8 ht (Heap.IsSliceOf.new ..) ?_ (by rw [hlen]; exact hz)) (by with_unfolding_all rfl)
    refine ⟨.ref _, _, I4.laid (t' := s2.toks) (o := .tup xs.reverse) (fun b ob q => Heap.get?_push_of_some _ q) (Nat.le_refl _) ?_, rfl, q _ (I4.hok.fresh (Nat.le_refl _))⟩
    exact ⟨by rw [List.length_reverse]; exact hz, its.reverse, r.reverse, lx.new _ _⟩
  · obtain ⟨its, r, pl, hz⟩ := I4.list hx
    have hlen : its.toArray.size = xs.length := by rw [List.size_toArray]; exact r.length.symm
    refine tail_any (ops := [.ref a, .ref s2.heap.objs.size]) pl.isList.typeIs slot_list_getitem.lookup (wpAny_getItem_list_slice pl.isList (Heap.IsSliceOf.new ..) .none .none (.int (-1) tk) (by decide) ?_ (by rw [hlen]; exact hz)) (by with_unfolding_all rfl)
    rw [yq]
    refine ⟨.ref _, _, I4.laid (t' := s2.toks) (o := .lst xs.reverse) (fun b ob q => Heap.get?_push_of_some _ q) (Nat.le_refl _) ?_, rfl, q _ (I4.hok.fresh (Nat.le_refl _))⟩
    exact ⟨by rw [List.length_reverse]; exact hz, its.reverse, 0, r.reverse, Heap.get?_push_size _ rfl⟩
noncomputable def qP (nl : NL) : D -> Hh -> R D := fun d h => match d with
  | .tup ds => .ok (.tup ds.reverse) h
  | .frl ds => nl ds.reverse h
  | .ref n => match aH h n with
    | some ds => nl ds.reverse h
    | none => .bad
  | _ => .bad
theorem CY {nl : NL} [iN nl] {e : Expr} {me : ME} {j p1 p2 p3 pos} (he : PE X e (tM X.K g ε me)) : PE X (.Subscript e (.Slice none none (some (.UnaryOp .USub (.Constant (.int 1) j p1) p3)) p2) pos) (tM X.K g ε (cUn (qP nl) me)) :=
  PE.imp (PE.frz (CC he)) fun σ H Q ⟨α, env, h, s, w⟩ => tM.use s w.bind fun d1 h1 v1 H1 α1 e1 s1 r1 w1 => by
    have w4 := w1.post e1
    unfold qP at w4
    cases r1 with
    | tup hq rs => exact ⟨_, _, rfl, .inl ⟨SqT.of hq, fun l hl => .inl (aX.tup w4 s1.heap rs.rev hl)⟩⟩
    | frl hq rs => exact ⟨_, _, rfl, .inr ⟨hq.sq, fun l hl => NL.post w4 s1.heap rs.rev hl⟩⟩
    | @ref n p hp =>
      simp only at w4
      cases e : aH h1 n with
      | none => rw [e] at w4; exact w4.elim
      | some ds =>
        rw [e] at w4
        obtain ⟨vs, hv, rs⟩ := s1.heap.lst e hp
        exact ⟨_, _, rfl, .inr ⟨SqL.of hv, fun l hl => NL.post w4 s1.heap rs.rev hl⟩⟩
    | _ => exact w4.elim
end
mutual
noncomputable def dD (k : Nat) : D -> Bool
  | .ref n => decide (n < k)
  | .tup ds => bU k ds
  | .frl ds => bU k ds
  | .scr ds => bU k ds
  | _ => true
noncomputable def bU (k : Nat) : List D -> Bool
  | [] => true
  | d :: ds => dD k d && bU k ds
end
noncomputable def uW (k : Nat) : O -> Bool
  | .lst ds => bU k ds
  | .set _ => true
  | .dic kvs => bU k (kvs.map (·.2))
  | .dit kvs => bU k (kvs.map (·.2))
noncomputable def l8 (f : D -> Option D) : List D -> Option (List D)
  | [] => some []
  | d :: ds => match f d, l8 f ds with
    | some e, some es => some (e :: es)
    | _, _ => none
noncomputable def gy (k : Nat) (h : Hh) : Nat -> D -> Option D
  | 0, _ => none
  | f + 1, d => match d with
    | .ref n => if n < k then some (.ref n) else match aH h n with
      | some ds => (l8 (gy k h f) ds).map .frl
      | none => none
    | .tup ds => (l8 (gy k h f) ds).map .tup
    | .frl ds => (l8 (gy k h f) ds).map .frl
    | .scr _ => none
    | d => some d
noncomputable def cf (h : Hh) : D -> Hh -> R D := fun d h' => if (h'.take h.length).all (uW h.length) = true then match gy h.length h' 8 d with
  | some e => .ok e (h'.take h.length)
  | none => .bad else .bad
open Classical in
noncomputable def k_ (S : Addr -> Prop) (o : Addr -> Obj) (H : Hp) : Hp := fun p => if S p then (H p).map (.frz (o p)) else H p
theorem Em {P : Program} {w : World} {H : Hp} {h : Heap} {p : Addr} {u : HO} (q : cK P w H h p u) (mu : Mut (some u)) : ∃ o, h.get? p = some o := by
  cases u with
  | lst xs => obtain ⟨_, _, _, _, e'⟩ := q; exact ⟨_, e'⟩
  | dK kvs => obtain ⟨_, _, _, _, o, _, _, e', _⟩ := q; exact ⟨_, e'⟩
  | dT kvs => obtain ⟨_, _, _, _, o, _, _, e', _⟩ := q; exact ⟨_, e'⟩
  | set S n => obtain ⟨o, _, _, _, e', _⟩ := q; exact ⟨_, e'⟩
  | ins C dx fs => obtain ⟨_, _, _, e', _⟩ := q; exact ⟨_, e'⟩
  | ext φ => obtain ⟨_, ⟨_, e'⟩, _⟩ := q; exact ⟨_, e'⟩
  | _ => exact absurd mu (fun z => z)
theorem Fy {outer : List Env} {P : Program} {w : World} {H : Hp} {s : Shared} {Q Q' : VK} {u : Value} {s' : Shared} (h : CE outer P w H s Q' u s')
    (hQ : ∀ v H', Q' v H' -> ∃ S : Addr -> Prop, (∀ p, S p -> ∃ u, H' p = some u /\ Mut (some u)) /\ ∀ o : Addr -> Obj, Q v (k_ S o H')) : CE outer P w H s Q u s' := by
  obtain ⟨v, H', os, bare, un, hok, r, q⟩ := h
  obtain ⟨S, hS, q⟩ := hQ v H' q
  have hS1 : ∀ p, S p -> ∀ u, H' p = some u -> Mut (some u) := fun p z u e => by obtain ⟨u', e', m⟩ := hS p z; rw [e] at e'; cases e'; exact m
  have off : ∀ (o : Addr -> Obj) b u, H' b = some u -> ¬ Mut (some u) -> k_ S o H' b = some u := fun o b u e m => by
    unfold k_
    rw [if_neg fun z => m (hS1 b z u e)]; exact e
  have offn : ∀ (o : Addr -> Obj) b, H' b = none -> k_ S o H' b = none := fun o b e => by
    unfold k_
    split
    · rw [e]; rfl
    · exact e
  let o : Addr -> Obj := fun b => (s'.heap.get? b).getD { cls := .none, data := .fields #[] }
  refine ⟨v, k_ S o H', os, bare, ⟨un.keep, un.slot, fun b ob e n hx => offn o b (un.free b ob e n hx), un.there, fun b xs e => off o b _ (un.qo b xs e) fun z => z, fun b ob xs e => off o b _ (un.pW b ob xs e) fun z => z, fun b ps e => ?_⟩, ?_, r, q o⟩
  · obtain ⟨more, e1⟩ := un.qx b ps e
    exact ⟨more, off o b _ e1 fun z => z⟩
  · intro b u e
    have st : ∀ u, cK P w H' s'.heap b u -> cK P w (k_ S o H') s'.heap b u := fun u x => x.pd (fun _ _ _ z => z) (fun c z => off o c _ z fun z => z) fun c xs z => off o c _ z fun z => z
    unfold k_ at e
    split at e
    · rename_i hb
      obtain ⟨u', e', m⟩ := hS b hb
      rw [e'] at e
      cases e
      have x := hok b u' e'
      obtain ⟨ob, eo⟩ := Em x m
      refine ⟨?_, st _ x⟩
      show s'.heap.get? b = some ((s'.heap.get? b).getD _)
      rw [eo]; rfl
    · exact st u (hok b u e)
section
variable {K : PySem.W.Frag} {g : GG} {α α' : List Addr} {H H' H2 : Hp} {k : Nat}
structure ub (K : PySem.W.Frag) (α α' : List Addr) (H' H2 : Hp) (k : Nat) : Prop where
  pre : ∀ n, n < k -> α[n]? = α'[n]?
  tup : ∀ p xs, H' p = some (.tup xs) -> H2 p = some (.tup xs)
  frz : ∀ p (o : Obj) (u : HO), H' p = some (.frz o u) -> H2 p = some (.frz o u)
mutual
theorem nW (L : ub K α α' H' H2 k) : ∀ {d : D} {v : V}, dD k d = true -> aU K g α' H' d v -> aU K g α H2 d v
  | _, _, _, .non => .non
  | _, _, _, .bl b => .bl b
  | _, _, _, .int i => .int i
  | _, _, _, .str x => .str x
  | _, _, hl, .ref h => .ref (by rw [L.pre _ (by simpa [dD] using hl)]; exact h)
  | _, _, hl, .tup h r => .tup (L.tup _ _ h) (gQ L (by simpa [dD] using hl) r)
  | _, _, hl, .frl h r => .frl (let ⟨o, h⟩ := h; ⟨o, L.frz _ _ _ h⟩) (gQ L (by simpa [dD] using hl) r)
  | _, _, hl, .scr h r => .scr (h.elim (fun ⟨o, h⟩ => .inl ⟨o, L.frz _ _ _ h⟩) .inr) (gQ L (by simpa [dD] using hl) r)
  | _, _, _, .fn h => .fn h
  | _, _, _, .edic h => .edic (L.frz _ _ _ h)
  | _, _, _, .exc hg h hc hd hf => .exc hg (L.frz _ _ _ h) hc hd (hf.elim .inl fun ⟨dx, od, a, b⟩ => .inr ⟨dx, od, a, L.frz _ _ _ b⟩)
theorem gQ (L : ub K α α' H' H2 k) : ∀ {ds : List D} {vs : List V}, bU k ds = true -> az K g α' H' ds vs -> az K g α H2 ds vs
  | _, _, _, .nil => .nil
  | _, _, hl, .cons r t => by
    simp only [bU, Bool.and_eq_true] at hl
    exact .cons (nW L hl.1 r) (gQ L hl.2 t)
end
theorem kP {f : D -> Option D} (hf : ∀ d e v, f d = some e -> aU K g α' H' d v -> aU K g α H2 e v) : ∀ {ds es : List D} {vs : List V}, l8 f ds = some es -> az K g α' H' ds vs -> az K g α H2 es vs
  | [], es, _, e, .nil => by cases e; exact .nil
  | d :: ds, es, _, e, .cons r t => by
    unfold l8 at e
    split at e
    · rename_i e1 es1 h1 h2
      cases e
      exact .cons (hf _ _ _ h1 r) (kP hf h2 t)
    · cases e
theorem nX {h' hx : Hh} (L : ub K α α' H' H2 k) (r : bh K g α' H' h') (hx' : ∀ n ds, aH hx n = some ds -> aH h' n = some ds) (fz : ∀ n p ds vs, k <= n -> aH hx n = some ds -> α'[n]? = some p -> H' p = some (.lst vs) -> Fr1 H2 p vs) :
    ∀ (f : Nat) (d e : D) (v : V), gy k hx f d = some e -> aU K g α' H' d v -> aU K g α H2 e v
  | 0, _, _, _, e, _ => by cases e
  | f + 1, d, e, v, he, rd => by
    unfold gy at he
    cases rd with
    | non => cases he; exact .non
    | bl b => cases he; exact .bl b
    | int i => cases he; exact .int i
    | str x => cases he; exact .str x
    | fn h => cases he; exact .fn h
    | edic h => cases he; exact .edic (L.frz _ _ _ h)
    | exc hg h hc hd hf => cases he; exact .exc hg (L.frz _ _ _ h) hc hd (hf.elim .inl fun ⟨dx, od, a, b⟩ => .inr ⟨dx, od, a, L.frz _ _ _ b⟩)
    | scr _ _ => cases he
    | tup h rs =>
      simp only at he
      cases e1 : l8 (gy k hx f) _ with
      | none => rw [e1] at he; cases he
      | some es => rw [e1] at he; cases he; exact .tup (L.tup _ _ h) (kP (fun d e v => nX L r hx' fz f d e v) e1 rs)
    | frl h rs =>
      simp only at he
      cases e1 : l8 (gy k hx f) _ with
      | none => rw [e1] at he; cases he
      | some es => rw [e1] at he; cases he; exact .frl (let ⟨o, h⟩ := h; ⟨o, L.frz _ _ _ h⟩) (kP (fun d e v => nX L r hx' fz f d e v) e1 rs)
    | @ref n p hp =>
      simp only at he
      split at he
      · rename_i hn
        cases he
        exact .ref (by rw [L.pre n hn]; exact hp)
      · rename_i hn
        cases el : aH hx n with
        | none => rw [el] at he; cases he
        | some ds =>
          rw [el] at he
          simp only at he
          cases e1 : l8 (gy k hx f) ds with
          | none => rw [e1] at he; cases he
          | some es =>
            rw [e1] at he; cases he
            obtain ⟨vs, hv, rs⟩ := r.lst (hx' n ds el) hp
            exact .frl (fz n p ds vs (by omega) el hp hv) (kP (fun d e v => nX L r hx' fz f d e v) e1 rs)
end
theorem t8 {β : Type} {l : List β} {k n : Nat} {x : β} (e : (l.take k)[n]? = some x) : n < k /\ l[n]? = some x := by
  rw [List.getElem?_take] at e
  split at e
  · exact ⟨by assumption, e⟩
  · cases e
theorem wX {α α' : List Addr} (h : α <+: α') {n : Nat} (hn : n < α.length) : α[n]? = α'[n]? := by
  obtain ⟨t, rfl⟩ := h
  rw [List.getElem?_append_left hn]
theorem Cj {β : Type} {l : List β} {f : β -> Bool} (h : l.all f = true) {n : Nat} {x : β} (e : l[n]? = some x) : f x = true := List.all_eq_true.mp h x (List.mem_of_getElem? e)
theorem zd {K : PySem.W.Frag} {g : GG} {α α' α2 : List Addr} {H H' H2 : Hp} {h h' : Hh} (r0 : α.length = h.length) (e : Ext K α H α' H') (r : bh K g α' H' h') (hl : (h'.take h.length).all (uW h.length) = true)
    (L : ub K α2 α' H' H2 h.length) (kp : ∀ n p u, n < h.length -> α'[n]? = some p -> H' p = some u -> H2 p = some u) : ∀ (n : Nat) (p : Addr) (o : O), n < h.length -> α'[n]? = some p -> (h'.take h.length)[n]? = some o -> OAt K g α2 H2 p o := by
  intro n p o hn hp ho
  have lo := Cj hl ho
  obtain ⟨_, ho'⟩ := t8 ho
  have q := r.here n p o hp ho'
  cases o with
  | lst ds => obtain ⟨vs, a, b⟩ := q; exact ⟨vs, kp n p _ hn hp a, gQ L lo b⟩
  | set m => exact kp n p _ hn hp q
  | dic kvs =>
    obtain ⟨kws, a, b⟩ := q
    refine ⟨kws, kp n p _ hn hp a, ?_⟩
    replace lo : bU h.length (kvs.map (·.2)) = true := lo
    clear a ho ho'
    induction b with
    | nil => exact .nil
    | cons x t ih =>
      simp only [List.map_cons, bU, Bool.and_eq_true] at lo
      exact .cons ⟨x.1, nW L lo.1 x.2⟩ (ih lo.2)
  | dit kvs =>
    obtain ⟨kws, a, b⟩ := q
    refine ⟨kws, kp n p _ hn hp a, ?_⟩
    replace lo : bU h.length (kvs.map (·.2)) = true := lo
    clear a ho ho'
    induction b with
    | nil => exact .nil
    | cons x t ih =>
      simp only [List.map_cons, bU, Bool.and_eq_true] at lo
      exact .cons ⟨x.1, nW L lo.1 x.2⟩ (ih lo.2)
section
variable {P : Program} {w : World} {K : PySem.W.Frag} {mg : Str -> Option Value} {base : Heap} {g : GG} {k np : Nat} {f : Addr} {fd : FuncData} {ps : List Str} {m : MF}
theorem dU {CX : CXT} {ε : XK -> EE} (F : fP P w K mg base CX k f fd ps (spG K g ε np m)) : fP P w K mg base CX k f fd ps (spG K g ε np fun ds h => (m ds h).bind (cf h)) := by
  refine ⟨fun vs H Q E h => ?_, fun A outer s H args us vs Q E hr e0 hb hv hsp => ?_⟩
  · obtain ⟨hl, α, ds, h, rs, hh, w⟩ := h
    exact F.len vs H (fun _ _ => True) E ⟨hl, α, ds, h, rs, hh, w.bind.mono fun _ _ _ _ _ _ _ _ _ _ => trivial⟩
  · obtain ⟨hl, α, ds, h, rs, hh, w⟩ := hsp
    refine codeAny_mono (F.run A outer s H args us vs (fun v H' => ∃ α' d h', Ext K α H α' H' /\ bh K g α' H' h' /\ aU K g α' H' d v /\ WQ K g (ε E) α H (cf h d h') (aX K g α H Q)) E hr e0 hb hv ⟨hl, α, ds, h, rs, hh, w.bind.mono fun d h' _ w1 v H' α' e r rd => ⟨α', d, h', e, r, rd, w1⟩⟩) fun res s' q => ?_
    cases res with
    | error e => exact q
    | ok fl =>
      cases fl with
      | ret u =>
        refine Fy (show CE outer P _ H s _ u s' from q) fun v H' ⟨α', d, h', e, r, rd, w⟩ => ?_
        refine ⟨fun p => ∃ n ds, h.length <= n /\ α'[n]? = some p /\ aH h' n = some ds, fun p ⟨n, ds, _, hp, hn⟩ => ?_, fun o => ?_⟩
        · obtain ⟨vs, hv, _⟩ := r.lst hn hp
          exact ⟨_, hv, trivial⟩
        · unfold cf at w
          obtain ⟨hl, w⟩ := WQ.e_ w
          cases ez : gy h.length h' 8 d with
          | none => rw [ez] at w; exact w.elim
          | some e' =>
            rw [ez] at w
            generalize hS : (fun p => ∃ n ds, h.length <= n /\ α'[n]? = some p /\ aH h' n = some ds) = S
            have inS : ∀ p, S p ↔ ∃ n ds, h.length <= n /\ α'[n]? = some p /\ aH h' n = some ds := fun p => by rw [<- hS]
            have k0 : α.length = h.length := hh.len
            have notS : ∀ p u, H' p = some u -> (∀ vs, u ≠ .lst vs) -> ¬ S p := fun p u e1 e2 z => by
              obtain ⟨n, ds, _, hp, hn⟩ := (inS p).mp z
              obtain ⟨vs, hv, _⟩ := r.lst hn hp
              rw [e1] at hv; cases hv; exact e2 vs rfl
            have off : ∀ p, ¬ S p -> k_ S o H' p = H' p := fun p z => by unfold k_; rw [if_neg z]
            have L : ub K α α' H' (k_ S o H') h.length := ⟨fun n hn => wX e.pre (by omega), fun p xs z => by rw [off p (notS p _ z fun vs z => nomatch z)]; exact z, fun p o u z => by rw [off p (notS p _ z fun vs z => nomatch z)]; exact z⟩
            have kp : ∀ n p u, n < h.length -> α'[n]? = some p -> H' p = some u -> k_ S o H' p = some u := fun n p u hn hp e1 => by
              rw [off p fun z => ?_]; exact e1
              obtain ⟨m, ds, hm, hp', _⟩ := (inS p).mp z
              have := r.inj n m p hp hp'
              omega
            have rd2 : aU K g α (k_ S o H') e' v := nX L r (fun _ _ z => z) (fun n p ds vs hn hl hp hv => ⟨o p, by unfold k_; rw [if_pos ((inS p).mpr ⟨n, ds, hn, hp, hl⟩), hv]; rfl⟩) 8 d e' v ez rd
            refine (show aX K g α H Q e' (h'.take h.length) from w) v _ α ⟨⟨List.prefix_refl _, fun p xs z => L.tup p xs (e.tup p xs z), fun p o u z => L.frz p o u (e.frz p o u z)⟩, fun p u z n => ?_, fun _ z n => absurd z n⟩ ⟨?_, fun n m p h1 h2 => hh.inj n m p h1 h2, fun n p ob h1 h2 => ?_⟩ rd2
            · rw [off p fun z' => ?_]; exact e.keep p u z n
              obtain ⟨m, ds, _, hp', _⟩ := (inS p).mp z'
              have := e.new p (List.mem_of_getElem? hp') n
              rw [z] at this; cases this
            · rw [List.length_take, <- r.len, k0]
              have := e.pre.length_le
              omega
            · have hn : n < h.length := (t8 h2).1
              rw [wX e.pre (by omega)] at h1
              exact zd k0 e r hl L kp n p ob hn h1 h2
      | next => exact q
      | brk => exact q
      | cont => exact q
end
end L2.FE
namespace L2
open PySem PySem.Spec PyProof.Rows
noncomputable def Izl (K : PySem.W.Frag) (a b : Addr) : It :=
  ⟨fun i H => ∃ xs ys x y, SqL K H a xs /\ SqL K H b ys /\ xs[i]? = some x /\ ys[i]? = some y,
   fun i H x H' => ∃ p v w, x = .ref p /\ H p = none /\ (∀ xs, SqL K H a xs -> xs[i]? = some v) /\ (∀ ys, SqL K H b ys -> ys[i]? = some w) /\ H' = upd H p (.tup [v, w]),
   fun i H => ∃ xs ys, SqL K H a xs /\ SqL K H b ys /\ (xs.length <= i \/ ys.length <= i)⟩
structure ZA (z TI TO i1 i2 : Addr) : Prop where
  TIz : TI ≠ z
  TOz : TO ≠ z
  i1z : i1 ≠ z
  i2z : i2 ≠ z
  TITO : TI ≠ TO
  TIi1 : TI ≠ i1
  TIi2 : TI ≠ i2
  TOi1 : TO ≠ i1
  TOi2 : TO ≠ i2
  i12 : i1 ≠ i2
noncomputable def DE (z TI TO i1 i2 a b : Addr) (i : Nat) (h : Heap) : Prop :=
  IsZip h z TI TO .none /\ IsPair h TI (.ref i1) (.ref i2) /\ (∃ x y, IsPair h TO x y) /\ h.IsListIter i1 a i /\ h.IsListIter i2 b i
theorem qW {z TI TO i1 i2 a b : Addr} {i : Nat} {h : Heap} {xs ys : Array Value} (A : ZA z TI TO i1 i2) (st : DE z TI TO i1 i2 a b i h) (ha : h.IsList a xs) (hb : h.IsList b ys) : ZipApart z TI TO i1 i2 a b := by
  obtain ⟨hz, hTI, ⟨x, y, hTO⟩, h1, h2⟩ := st
  have cl : ∀ {l : Addr} {vs : Array Value}, h.IsList l vs -> l ≠ z /\ l ≠ TO /\ l ≠ i1 /\ l ≠ i2 := fun {l vs} hl => by
    obtain ⟨oa, qa, ca, _⟩ := hl
    obtain ⟨o1, q1, c1, _⟩ := h1
    obtain ⟨o2, q2, c2, _⟩ := h2
    refine ⟨fun q => ?_, fun q => ?_, fun q => ?_, fun q => ?_⟩
    · rw [q, hz] at qa; cases qa; injection ca with w; exact absurd w (by decide)
    · rw [q, hTO] at qa; cases qa; injection ca with w; exact absurd w (by decide)
    · rw [q, q1] at qa; cases qa; rw [c1] at ca; injection ca with w; exact absurd w (by decide)
    · rw [q, q2] at qa; cases qa; rw [c2] at ca; injection ca with w; exact absurd w (by decide)
  obtain ⟨a1, a2, a3, a4⟩ := cl ha
  obtain ⟨b1, b2, b3, b4⟩ := cl hb
  exact ⟨A.TIz, A.TOz, A.i1z, A.i2z, A.TITO, A.TIi1, A.TIi2, A.TOi1, A.TOi2, A.i12, a1, a2, a3, a4, b1, b2, b3, b4⟩
theorem yk {P : Program} {w : World} {K : PySem.W.Frag} {elts : List Expr} {k : Nat} {pos : Pos} {a b z TI TO i1 i2 : Addr} (A : ZA z TI TO i1 i2) : Turn P w K (.Tuple elts k pos) (Izl K a b) [z, TI, TO, i1, i2] z (DE z TI TO i1 i2 a b) where
  mem := by simp
  obj := fun i h st c hc => by
    obtain ⟨hz, hTI, ⟨x, y, hTO⟩, ⟨o1, q1, _, d1⟩, ⟨o2, q2, _, d2⟩⟩ := st
    simp only [List.mem_cons, List.not_mem_nil, or_false] at hc
    rcases hc with e | e | e | e | e <;> rw [e]
    · exact ⟨_, hz, fun v q => nomatch q⟩
    · exact ⟨_, hTI, fun v q => nomatch q⟩
    · exact ⟨_, hTO, fun v q => nomatch q⟩
    · exact ⟨o1, q1, fun v y => by rw [d1] at y; cases y⟩
    · exact ⟨o2, q2, fun v y => by rw [d2] at y; cases y⟩
  keep := fun i h h' st kk => by
    obtain ⟨hz, hTI, ⟨x, y, hTO⟩, h1, h2⟩ := st
    exact ⟨kk z (by simp) _ hz, kk TI (by simp) _ hTI, ⟨x, y, kk TO (by simp) _ hTO⟩, h1.at fun o q => kk i1 (by simp) o q, h2.at fun o q => kk i2 (by simp) o q⟩
  item := by
    intro X hP hw hK hc i pins s σ H E I hf st hg
    subst hP hw hK
    obtain ⟨xs, ys, x, y, hq, hr, hx, hy⟩ := hg
    obtain ⟨its, rv, p, hz⟩ := I.list hq
    obtain ⟨jts, rw', p', hz'⟩ := I.list hr
    obtain ⟨u, hu, ru⟩ := rv.get hx
    obtain ⟨u', hu', ru'⟩ := rw'.get hy
    have D := qW A st p.isList p'.isList
    obtain ⟨z1, z2, ⟨t1, t2, z3⟩, z4, z5⟩ := st
    refine wpAny_pyNext_zip_item D z1 z2 z3 z4 z5 p.isList p'.isList (x := u) (y := u') (by simpa using hu) (by simpa using hu') fun h1 a1 a2 a3 a4 a5 a6 k1 => ?_
    refine ⟨_, rfl, wpAny_letOwnedTupleGo_zip a1 fun h2 b1 b2 => ?_⟩
    have lt : ∀ {c o}, s.heap.get? c = some o -> s.heap.objs.size ≠ c := fun e => Nat.ne_of_gt (Heap.lt_size e)
    have kk : ∀ c o, c ∉ [z, TI, TO, i1, i2] -> s.heap.get? c = some o -> h2.get? c = some o := fun c o hc q => by
      simp only [List.mem_cons, List.not_mem_nil, or_false, not_or] at hc
      exact b2.extBut _ _ hc.1 (k1 c o hc.1 hc.2.2.1 hc.2.2.2.1 hc.2.2.2.2 q)
    have hn : H s.heap.objs.size = none := I.hok.fresh (Nat.le_refl _)
    have hzT : s.heap.objs.size ≠ z := lt z1
    have nTf : ∀ c ∈ [z, TI, TO, i1, i2], c ≠ s.heap.objs.size := fun c hc => by
      simp only [List.mem_cons, List.not_mem_nil, or_false] at hc
      rcases hc with e | e | e | e | e <;> rw [e]
      · exact (lt z1).symm
      · exact (lt z2).symm
      · exact (lt z3).symm
      · obtain ⟨o, q, _⟩ := z4; exact (lt q).symm
      · obtain ⟨o, q, _⟩ := z5; exact (lt q).symm
    have hT2 : lx h2 s.heap.objs.size #[u, u'] := ⟨_, b2.extBut _ _ hzT a5, ⟨rfl, _, rfl⟩, rfl⟩
    refine ⟨.ref s.heap.objs.size, upd H s.heap.objs.size (.tup [x, y]), I.yielded (t' := s.toks) hf kk (Nat.le_refl _) ⟨by show 2 <= sizeLine; decide, [u, u'], .cons ru (.cons ru' .nil), hT2⟩, rfl, ⟨_, x, y, rfl, hn, fun l hl => by rw [I.jk hl hq]; exact hx, fun l hl => by rw [I.jk hl hr]; exact hy, rfl⟩, ?_, fun c hc => by rw [aW (nTf c hc)]; exact (hf c hc).1⟩
    exact ⟨b1, b2.extBut _ _ A.TIz (k1 _ _ A.TIz A.TITO A.TIi1 A.TIi2 z2), ⟨_, _, b2.extBut _ _ A.TOz a2⟩, a3.extBut b2.extBut A.i1z, a4.extBut b2.extBut A.i2z⟩
  done := by
    intro X hP hw hK hc i pins s σ H E I hf st hg
    subst hP hw hK
    obtain ⟨xs, ys, hq, hr, hx⟩ := hg
    obtain ⟨its, rv, p, hz⟩ := I.list hq
    obtain ⟨jts, rw', p', hz'⟩ := I.list hr
    have D := qW A st p.isList p'.isList
    obtain ⟨z1, z2, ⟨t1, t2, z3⟩, z4, z5⟩ := st
    have hl := rv.length
    have hl' := rw'.length
    refine wpAny_pyNext_zip_end (I.ok.hd hc) D z1 z2 z3 z4 z5 p.isList p'.isList ?_ fun h' eb => ⟨rfl, I.nO (t' := s.toks) hf fun b u hb q => eb b u (fun z => hb (by simp [z])) (fun z => hb (by simp [z])) (fun z => hb (by simp [z])) (fun z => hb (by simp [z])) q⟩
    rcases hx with hx | hx
    · exact .inl (Array.getElem?_eq_none (by rw [List.size_toArray]; omega))
    · exact .inr (Array.getElem?_eq_none (by rw [List.size_toArray]; omega))
  self := fun A i s Q E st q => wpAny_pyIter_zip st.1 q
end L2
namespace L2.FE
open PySem PySem.Spec PyProof.Rows
section
variable {X : Cx} {g : GG} {ε : EE} {K : PySem.W.Frag}
noncomputable def kK : List D -> List D -> List D
  | x :: xs, y :: ys => D.tup [x, y] :: kK xs ys
  | _, _ => []
theorem kY : ∀ {ds es : List D} {i : Nat}, (kK ds es)[i]? = match ds[i]?, es[i]? with | some d, some e => some (D.tup [d, e]) | _, _ => none
  | [], _, _ => by simp [kK]
  | _ :: _, [], _ => by
    simp only [kK, List.getElem?_nil]
    split <;> simp_all
  | _ :: _, _ :: _, 0 => by simp [kK]
  | _ :: xs, _ :: ys, i + 1 => by
    simp only [kK, List.getElem?_cons_succ]
    exact kY
theorem wW {α : List Addr} {H : Hp} {h : Hh} {d e : D} {v w : V} {p : Addr} (hr : bh K g α H h) (rv : aU K g α H d v) (rw' : aU K g α H e w) (hp : H p = none) :
    ∃ α', Ext K α H α' (upd H p (.tup [v, w])) /\ bh K g α' (upd H p (.tup [v, w])) h /\ aU K g α' (upd H p (.tup [v, w])) (.tup [d, e]) (.ref p) :=
  ⟨α, Ext.fresh hp, hr.grow hp, .tup aY (.cons (rv.ext (Ext.fresh hp)) (.cons (rw'.ext (Ext.fresh hp)) .nil))⟩
theorem xX {α : List Addr} {H : Hp} {a b : Addr} {ds es : List D} {vs ws : List V} (hq : Fro K H a vs) (rs : az K g α H ds vs) (hq' : Fro K H b ws) (rs' : az K g α H es ws) : Reads K g (Izl K a b) (Src.snap (kK ds es)).rdr α H := by
  intro α2 H2 h2 x2 hr i
  have hq2 : SqL K H2 a vs := (x2.fro _ _ hq).sq
  have hq2' : SqL K H2 b ws := (x2.fro _ _ hq').sq
  have rs2 := rs.ext x2
  have rs2' := rs'.ext x2
  show match some (kK ds es)[i]? with | none => True | some none => _ | some (some d) => _
  rw [kY]
  cases e : ds[i]? with
  | none =>
    have : ds.length <= i := List.getElem?_eq_none_iff.mp e
    exact ⟨vs, ws, hq2, hq2', .inl (by rw [<- rs.length]; exact this)⟩
  | some d =>
    cases e' : es[i]? with
    | none =>
      have : es.length <= i := List.getElem?_eq_none_iff.mp e'
      exact ⟨vs, ws, hq2, hq2', .inr (by rw [<- rs'.length]; exact this)⟩
    | some d' =>
      obtain ⟨v, ev, rv⟩ := rs2.get e
      obtain ⟨v', ev', rv'⟩ := rs2'.get e'
      refine ⟨⟨vs, ws, v, v', hq2, hq2', ev, ev'⟩, fun x H' y => ?_⟩
      obtain ⟨p, u, u', e1, hp, e2, e2', e3⟩ := y
      subst e1 e3
      have := e2 vs hq2
      rw [ev] at this
      cases this
      have := e2' ws hq2'
      rw [ev'] at this
      cases this
      exact wW hr rv rv' hp
noncomputable def gT (m : MF) : MF := fun ds h => if bU 0 ds = true then match m ds [] with
    | .ok d _ => if dD 0 d = true then .ok d h else .bad
    | _ => .bad
  else m ds h
theorem wK {α α' : List Addr} {H H' : Hp} (e : Ext K [] H α' H') : Ext K α H α H' :=
  ⟨⟨List.prefix_refl _, e.tup, e.frz⟩, fun p o h _ => e.keep p o h (by simp), fun p a b => absurd a b⟩
theorem Bp {α α' : List Addr} {H H' : Hp} {h : Hh} (e : Ext K [] H α' H') (r : bh K g α H h) : bh K g α H' h :=
  ⟨r.len, r.inj, fun n p o a b => (r.here n p o a b).ex0 (wK (α := α) e).toEx0 fun u hu => e.keep p u hu (by simp)⟩
theorem AA {np : Nat} {m : MF} {vs : List V} {H : Hp} {Q : VK} {E} (h : spM K g np (gT m) vs H Q E) : spM K g np m vs H Q E := by
  obtain ⟨hl, α, ds, h, rs, hh, w⟩ := h
  unfold gT at w
  by_cases lo : bU 0 ds = true
  · rw [if_pos lo] at w
    cases e : m ds [] with
    | bad => rw [e] at w; exact w.elim
    | err x h1 => rw [e] at w; exact w.elim
    | ok d h1 =>
      rw [e] at w
      simp only at w
      obtain ⟨ld, w⟩ := WQ.e_ w
      refine ⟨hl, [], ds, [], gQ ⟨fun n hn => absurd hn (Nat.not_lt_zero _), fun _ _ z => z, fun _ _ _ z => z⟩ lo rs, ⟨rfl, fun n m p a => by simp at a, fun n p o a => by simp at a⟩, ?_⟩
      rw [e]
      exact fun v H' α' ex hr' rd => (show aX K g α H Q d h from w) v H' α (wK ex) (Bp ex hh) (nW ⟨fun n hn => absurd hn (Nat.not_lt_zero _), fun _ _ z => z, fun _ _ _ z => z⟩ ld rd)
  · rw [if_neg lo] at w
    exact ⟨hl, α, ds, h, rs, hh, w⟩
theorem lN {P : Program} {w : World} {mg : Str -> Option Value} {base : Heap} {k np : Nat} {f : Addr} {fd : FuncData} {ps : List Str} {m : MF} (F : fP P w K mg base CX0 k f fd ps (spM K g np m)) : fP P w K mg base CX0 k f fd ps (spM K g np (gT m)) :=
  ⟨fun vs H Q E h => F.len vs H Q E (AA h), fun A outer s H args us vs Q E hr e0 hb hv hsp => F.run A outer s H args us vs Q E hr e0 hb hv (AA hsp)⟩
end
end L2.FE
namespace L2
open PySem PySem.Spec PyProof.Rows
section
variable {prog : Program} {w : World} {A : Around} {E : Value -> Shared -> Prop} {s : Shared}
theorem xK {z U V a b p q : Addr} {i j : Nat} {xs ys : Array Value} {x y v1 v2 : Value} {Q : Value -> Shared -> Prop} (D : ZipApart z U V a b p q) (hz : IsZip s.heap z U V .none) (hU : IsPair s.heap U (.ref a) (.ref b)) (hV : IsPair s.heap V v1 v2)
    (ha : s.heap.IsTupleIter a p i) (hb : s.heap.IsTupleIter b q j) (hp : s.heap.IsTuple p xs) (hq : s.heap.IsTuple q ys) (hx : xs[i]? = some x) (hy : ys[j]? = some y)
    (K : ∀ h', IsZip h' z U V (rawInt s.heap.objs.size) -> IsPair h' V x y -> h'.IsTupleIter a p (i + 1) -> h'.IsTupleIter b q (j + 1) -> IsPair h' s.heap.objs.size x y -> h'.objs.size = s.heap.objs.size + 1 -> (∀ c o, c ≠ z -> c ≠ V -> c ≠ a -> c ≠ b -> s.heap.get? c = some o -> h'.get? c = some o) -> Q (.ref s.heap.objs.size) { s with heap := h' }) :
    wpAny (model prog w) A (Builtin.«zip.__next__» ⟨[.ref z], []⟩) (fun f s' => ∃ v, f = .done (.ret v) /\ Q v s') E s := by
  show wpAny _ _ (field (.ref z) 2 >>= _) _ _ _; refine wpAny_bind (wpAny_field hz rfl (x := .bool false) rfl ?_); show wpAny _ _ (field (.ref z) 3 >>= _) _ _ _
  refine wpAny_bind (wpAny_field hz rfl (x := .ref U) rfl (wpAny_bind (wpAny_seqItems hU rfl ?_)))
  show wpAny _ _ (Builtin.SmallTypes.ownedTupleIsFree (.ref z) >>= _) _ _ _; refine wpAny_bind ?_; unfold Builtin.SmallTypes.ownedTupleIsFree
  refine wpAny_bind (wpAny_field hz rfl (x := .none) rfl (wpAny_pure ?_)); simp only [if_true]
  refine wpAny_bind (wpAny_rule (wpAny_bind (wpAny_field hz rfl (x := .ref V) rfl (wpAny_bind (wpAny_setField_rec hz (by simp) fun g1 z1 m1 => ?_)))))
  replace z1 : IsZip g1 z U V .ellipsis := z1
  refine wpAny_bind ?_; simp only [List.zipIdx_cons, List.zipIdx_nil, List.forIn_cons, List.forIn_nil]
  refine wpAny_bind (wpAny_bind (wpAny_onRaise ?_)); show wpAny _ _ (Builtin.SmallTypes.nextOf (.ref a) >>= _) _ _ _
  refine wpAny_bind (hJ (ha.extBut m1.extBut D.i1z) (hp.extBut m1.extBut D.l1z) hx fun g2 a2 m2 => wpAny_pure ?_)
  have V2 : IsPair g2 V v1 v2 := m2.extBut _ _ D.TOi1 (m1.extBut _ _ D.TOz hV)
  refine wpAny_bind (wpAny_seqItems V2 rfl (wpAny_bind (wpAny_updateSeq_pair V2 fun g3 V3 m3 => ?_)))
  replace V3 : IsPair g3 V x v2 := V3
  refine wpAny_bind (wpAny_letGo (wpAny_pure (wpAny_bind (wpAny_bind (wpAny_onRaise ?_))))); show wpAny _ _ (Builtin.SmallTypes.nextOf (.ref b) >>= _) _ _ _
  refine wpAny_bind (hJ (((hb.extBut m1.extBut D.i2z).extBut m2.extBut D.i12.symm).extBut m3.extBut D.TOi2.symm) (((hq.extBut m1.extBut D.l2z).extBut m2.extBut D.l2i1).extBut m3.extBut D.l2TO) hy fun g4 b4 m4 => wpAny_pure ?_)
  have V4 : IsPair g4 V x v2 := m4.extBut _ _ D.TOi2 V3
  refine wpAny_bind (wpAny_seqItems V4 rfl (wpAny_bind (wpAny_updateSeq_pair V4 fun g5 V5 m5 => ?_)))
  replace V5 : IsPair g5 V x y := V5
  refine wpAny_bind (wpAny_letGo (wpAny_pure (wpAny_pure (wpAny_bind (wpAny_seqItems V5 rfl (wpAny_bind (wpAny_newTuple ?_)))))))
  have n5 : g5.objs.size = s.heap.objs.size := by rw [m5.1, m4.1, m3.1, m2.1, m1.1]
  have z5 : IsZip g5 z U V .ellipsis := m5.extBut _ _ D.TOz.symm (m4.extBut _ _ D.i2z.symm (m3.extBut _ _ D.TOz.symm (m2.extBut _ _ D.i1z.symm z1)))
  have k5 : ∀ c o, c ≠ z -> c ≠ V -> c ≠ a -> c ≠ b -> s.heap.get? c = some o -> g5.get? c = some o := fun c o c1 c2 c3 c4 e => m5.extBut _ _ c2 (m4.extBut _ _ c4 (m3.extBut _ _ c2 (m2.extBut _ _ c3 (m1.extBut _ _ c1 e))))
  have a5 : g5.IsTupleIter a p (i + 1) := ((a2.extBut m3.extBut D.TOi1.symm).extBut m4.extBut D.i12).extBut m5.extBut D.TOi1.symm
  have b5 : g5.IsTupleIter b q (j + 1) := b4.extBut m5.extBut D.TOi2.symm
  have lz : z < g5.objs.size := Heap.lt_size z5
  show wpAny _ _ (Builtin.SmallTypes.ownedTupleHandOut (.ref z) (.ref g5.objs.size) >>= _) _ _ _; refine wpAny_bind ?_; unfold Builtin.SmallTypes.ownedTupleHandOut
  have z6 : IsZip (g5.push { cls := .type "tuple", data := .seq #[x, y] }) z U V .ellipsis := Heap.get?_push_of_some _ z5
  refine wpAny_bind (wpAny_setField_rec z6 (by simp) fun g7 z7 m7 => ?_)
  replace z7 : IsZip g7 z U V (rawInt g5.objs.size) := z7
  refine wpAny_setField_rec z7 (by simp) fun g8 z8 m8 => ?_
  replace z8 : IsZip g8 z U V (rawInt g5.objs.size) := z8
  have up : ∀ c o, c ≠ z -> g5.get? c = some o -> g8.get? c = some o := fun c o c1 e => m8.extBut _ _ c1 (m7.extBut _ _ c1 (Heap.get?_push_of_some _ e))
  have T8 : IsPair g8 g5.objs.size x y := m8.extBut _ _ (Nat.ne_of_gt lz) (m7.extBut _ _ (Nat.ne_of_gt lz) (Heap.get?_push_size _ rfl))
  have n8 : g8.objs.size = g5.objs.size + 1 := by rw [m8.1, m7.1, Heap.size_push]
  rw [n5] at z8 T8 n8
  refine wpAny_pure ⟨_, rfl, ?_⟩; show Q (.ref g5.objs.size) _; rw [n5]
  exact K g8 z8 (up _ _ D.TOz V5) (a5.at fun o e => up _ o D.i1z e) (b5.at fun o e => up _ o D.i2z e) T8 n8 fun c o c1 c2 c3 c4 e => up c o c1 (k5 c o c1 c2 c3 c4 e)
theorem Bf {z U V a b p q : Addr} {i j : Nat} {xs ys : Array Value} {v1 v2 : Value} {Q : Fin -> Shared -> Prop} (hh : A.handled = none) (D : ZipApart z U V a b p q) (hz : IsZip s.heap z U V .none) (hU : IsPair s.heap U (.ref a) (.ref b)) (hV : IsPair s.heap V v1 v2)
    (ha : s.heap.IsTupleIter a p i) (hb : s.heap.IsTupleIter b q j) (hp : s.heap.IsTuple p xs) (hq : s.heap.IsTuple q ys) (he : xs[i]? = none \/ ys[j]? = none)
    (K : ∀ h' e, (∀ c o, c ≠ z -> c ≠ V -> c ≠ a -> c ≠ b -> s.heap.get? c = some o -> h'.get? c = some o) -> (∃ o, h'.get? e = some o /\ o.cls = .type "StopIteration") -> E (.ref e) { s with heap := h' }) : wpAny (model prog w) A (Builtin.«zip.__next__» ⟨[.ref z], []⟩) Q E s := by
  show wpAny _ _ (field (.ref z) 2 >>= _) _ _ _; refine wpAny_bind (wpAny_field hz rfl (x := .bool false) rfl ?_); show wpAny _ _ (field (.ref z) 3 >>= _) _ _ _
  refine wpAny_bind (wpAny_field hz rfl (x := .ref U) rfl (wpAny_bind (wpAny_seqItems hU rfl ?_)))
  show wpAny _ _ (Builtin.SmallTypes.ownedTupleIsFree (.ref z) >>= _) _ _ _; refine wpAny_bind ?_; unfold Builtin.SmallTypes.ownedTupleIsFree
  refine wpAny_bind (wpAny_field hz rfl (x := .none) rfl (wpAny_pure ?_)); simp only [if_true]
  refine wpAny_bind (wpAny_rule (wpAny_bind (wpAny_field hz rfl (x := .ref V) rfl (wpAny_bind (wpAny_setField_rec hz (by simp) fun g1 z1 m1 => ?_)))))
  replace z1 : IsZip g1 z U V .ellipsis := z1
  refine wpAny_bind ?_; simp only [List.zipIdx_cons, List.zipIdx_nil, List.forIn_cons, List.forIn_nil]
  refine wpAny_bind (wpAny_bind (wpAny_onRaise ?_)); show wpAny _ _ (Builtin.SmallTypes.nextOf (.ref a) >>= _) _ _ _
  cases hx : xs[i]? with
  | none =>
    refine wpAny_bind (jM hh (ha.extBut m1.extBut D.i1z) (hp.extBut m1.extBut D.l1z) hx fun g2 e m2 ee => ?_)
    obtain ⟨oe, e1, e2⟩ := ee
    have z2 : IsZip g2 z U V .ellipsis := m2 _ _ D.i1z.symm z1
    have ez : e ≠ z := fun u => by subst u; rw [z2] at e1; cases e1; simp at e2
    exact wpAny_setField_rec z2 (by simp) fun g3 _ m3 => K g3 e (fun c o c1 _ c3 _ u => m3.extBut _ _ c1 (m2 _ _ c3 (m1.extBut _ _ c1 u))) ⟨oe, m3.extBut _ _ ez e1, e2⟩
  | some x =>
    have hy : ys[j]? = none := he.resolve_left (by rw [hx]; exact nofun)
    refine wpAny_bind (hJ (ha.extBut m1.extBut D.i1z) (hp.extBut m1.extBut D.l1z) hx fun g2 a2 m2 => wpAny_pure ?_)
    have V2 : IsPair g2 V v1 v2 := m2.extBut _ _ D.TOi1 (m1.extBut _ _ D.TOz hV)
    refine wpAny_bind (wpAny_seqItems V2 rfl (wpAny_bind (wpAny_updateSeq_pair V2 fun g3 V3 m3 => ?_)))
    refine wpAny_bind (wpAny_letGo (wpAny_pure (wpAny_bind (wpAny_bind (wpAny_onRaise ?_))))); show wpAny _ _ (Builtin.SmallTypes.nextOf (.ref b) >>= _) _ _ _
    refine wpAny_bind (jM hh (((hb.extBut m1.extBut D.i2z).extBut m2.extBut D.i12.symm).extBut m3.extBut D.TOi2.symm) (((hq.extBut m1.extBut D.l2z).extBut m2.extBut D.l2i1).extBut m3.extBut D.l2TO) hy fun g4 e m4 ee => ?_)
    obtain ⟨oe, e1, e2⟩ := ee
    have z4 : IsZip g4 z U V .ellipsis := m4 _ _ D.i2z.symm (m3.extBut _ _ D.TOz.symm (m2.extBut _ _ D.i1z.symm z1))
    have ez : e ≠ z := fun u => by subst u; rw [z4] at e1; cases e1; simp at e2
    exact wpAny_setField_rec z4 (by simp) fun g5 _ m5 => K g5 e (fun c o c1 c2 c3 c4 u => m5.extBut _ _ c1 (m4 _ _ c4 (m3.extBut _ _ c2 (m2.extBut _ _ c3 (m1.extBut _ _ c1 u))))) ⟨oe, m5.extBut _ _ ez e1, e2⟩
theorem yb {z U V a b p q : Addr} {i j : Nat} {xs ys : Array Value} {x y v1 v2 : Value} {Q : Option Value -> Shared -> Prop} (D : ZipApart z U V a b p q) (hz : IsZip s.heap z U V .none) (hU : IsPair s.heap U (.ref a) (.ref b)) (hV : IsPair s.heap V v1 v2)
    (ha : s.heap.IsTupleIter a p i) (hb : s.heap.IsTupleIter b q j) (hp : s.heap.IsTuple p xs) (hq : s.heap.IsTuple q ys) (hx : xs[i]? = some x) (hy : ys[j]? = some y)
    (K : ∀ h', IsZip h' z U V (rawInt s.heap.objs.size) -> IsPair h' V x y -> h'.IsTupleIter a p (i + 1) -> h'.IsTupleIter b q (j + 1) -> IsPair h' s.heap.objs.size x y -> h'.objs.size = s.heap.objs.size + 1 -> (∀ c o, c ≠ z -> c ≠ V -> c ≠ a -> c ≠ b -> s.heap.get? c = some o -> h'.get? c = some o) -> Q (some (.ref s.heap.objs.size)) { s with heap := h' }) :
    wpAny (model prog w) A (pyNext (.ref z)) Q E s := by
  have ty : s.TypeIs (.ref z) "zip" := ⟨_, hz, rfl⟩
  unfold pyNext; refine wpAny_bind (wpAny_attempt (wpAny_callSpecial?_slot (name := Str.ofString "__next__") ty F.slot_zip_next (wpAny_call_entry F.slot_zip_next ty F.entry_zip_next ?_ (F.args_zip_next_1 _))))
  exact xK D hz hU hV ha hb hp hq hx hy fun h' b1 b2 b3 b4 b5 b6 b7 => wpAny_pure (K h' b1 b2 b3 b4 b5 b6 b7)
theorem zB {z U V a b p q : Addr} {i j : Nat} {xs ys : Array Value} {v1 v2 : Value} {Q : Option Value -> Shared -> Prop} (hh : A.handled = none) (D : ZipApart z U V a b p q) (hz : IsZip s.heap z U V .none) (hU : IsPair s.heap U (.ref a) (.ref b)) (hV : IsPair s.heap V v1 v2)
    (ha : s.heap.IsTupleIter a p i) (hb : s.heap.IsTupleIter b q j) (hp : s.heap.IsTuple p xs) (hq : s.heap.IsTuple q ys) (he : xs[i]? = none \/ ys[j]? = none)
    (K : ∀ h', (∀ c o, c ≠ z -> c ≠ V -> c ≠ a -> c ≠ b -> s.heap.get? c = some o -> h'.get? c = some o) -> Q none { s with heap := h' }) : wpAny (model prog w) A (pyNext (.ref z)) Q E s := by
  have ty : s.TypeIs (.ref z) "zip" := ⟨_, hz, rfl⟩
  unfold pyNext; refine wpAny_bind (wpAny_attempt (wpAny_callSpecial?_slot (name := Str.ofString "__next__") ty F.slot_zip_next (wpAny_call_entry F.slot_zip_next ty F.entry_zip_next ?_ (F.args_zip_next_1 _))))
  refine Bf hh D hz hU hV ha hb hp hq he fun h' e kk ⟨o, ho, hc⟩ => ?_
  exact wpAny_bind (wpAny_isInstance (T := "StopIteration") (b := true) ⟨o, ho, hc⟩ isSubtype_stop (wpAny_pure (K _ kk)))
end
noncomputable def zh1 (h : Heap) (p : Addr) : Heap := h.push { cls := .type "tuple_iterator", data := .fields #[.ref p, .int 0 0] }
noncomputable def zh2 (h : Heap) (p q : Addr) : Heap := (zh1 h p).push { cls := .type "tuple_iterator", data := .fields #[.ref q, .int 0 0] }
noncomputable def zh3 (h : Heap) (p q : Addr) : Heap := (zh2 h p q).push { cls := .type "tuple", data := .seq #[.ref h.objs.size, .ref (zh1 h p).objs.size] }
noncomputable def zh4 (h : Heap) (p q : Addr) : Heap := (zh3 h p q).push { cls := .type "tuple", data := .seq #[.none, .none] }
noncomputable def zh5 (h : Heap) (p q : Addr) : Heap := (zh4 h p q).push { cls := .type "zip", data := .fields #[.none, .bool false, .bool false, .ref (zh2 h p q).objs.size, .ref (zh3 h p q).objs.size] }
theorem vy (p q : Addr) (xs ys : Array Value) : Meets (Builtin.«zip.__new__» ⟨[.type "zip", .ref p, .ref q], []⟩) (fun _ R s => s.heap.IsTuple p xs /\ s.heap.IsTuple q ys /\ R (.ok (.ret (.ref (zh4 s.heap p q).objs.size))) { s with heap := zh5 s.heap p q }) :=
  .of_wp fun prog w A R s h => by
    obtain ⟨hp, g, d, tk, os⟩ := s; obtain ⟨h1, h2, h⟩ := h
    have sub := sub_zip
    have t1 : Heap.IsTuple (Shared.heap ⟨hp, g, d, tk, os⟩) p xs := h1
    have t2 : Heap.IsTuple (Shared.heap ⟨hp.push { cls := .type "tuple_iterator", data := .fields #[.ref p, .int 0 0] }, g, d, tk, os⟩) q ys := Heap.IsTuple.at h2 fun o e => Heap.get?_push_of_some _ e
    wp_walk using wpAny_pyIter_tuple t1, wpAny_pyIter_tuple t2
    exact ⟨_, rfl, h⟩
section
variable {prog : Program} {w : World} {A : Around} {E : Value -> Shared -> Prop} {s : Shared}
theorem xW {p q : Addr} {xs ys : Array Value} {Q : Value -> Shared -> Prop} (h1 : s.heap.IsTuple p xs) (h2 : s.heap.IsTuple q ys)
    (K : ∀ h', IsZip h' (s.heap.objs.size + 4) (s.heap.objs.size + 2) (s.heap.objs.size + 3) .none -> IsPair h' (s.heap.objs.size + 2) (.ref s.heap.objs.size) (.ref (s.heap.objs.size + 1)) -> IsPair h' (s.heap.objs.size + 3) .none .none -> h'.IsTupleIter s.heap.objs.size p 0 -> h'.IsTupleIter (s.heap.objs.size + 1) q 0 -> (∀ c o, s.heap.get? c = some o -> h'.get? c = some o) -> Q (.ref (s.heap.objs.size + 4)) { s with heap := h' }) :
    wpAny (model prog w) A (call (.type "zip") [.ref p, .ref q]) Q E s := by
  refine callType_new F.called_zip (by decide) (F.typeCall_zip_2 _ _) (F.newCall_zip_2 _ _) (fun obj => F.args_object_init_3 obj _ _) F.entry_zip_new (vy p q xs ys) ⟨h1, h2, ?_⟩
  have e1 : (zh1 s.heap p).objs.size = s.heap.objs.size + 1 := Heap.size_push ..
  have e2 : (zh2 s.heap p q).objs.size = s.heap.objs.size + 2 := (Heap.size_push ..).trans (by rw [e1])
  have e3 : (zh3 s.heap p q).objs.size = s.heap.objs.size + 3 := (Heap.size_push ..).trans (by rw [e2])
  have e4 : (zh4 s.heap p q).objs.size = s.heap.objs.size + 4 := (Heap.size_push ..).trans (by rw [e3])
  have o5 : (zh5 s.heap p q).get? (zh4 s.heap p q).objs.size = some _ := Heap.get?_push_size _ rfl
  have o4 : (zh5 s.heap p q).get? (zh3 s.heap p q).objs.size = some _ := Heap.get?_push_of_some _ (Heap.get?_push_size _ rfl)
  have o3 : (zh5 s.heap p q).get? (zh2 s.heap p q).objs.size = some _ := Heap.get?_push_of_some _ (Heap.get?_push_of_some _ (Heap.get?_push_size _ rfl))
  have o2 : (zh5 s.heap p q).get? (zh1 s.heap p).objs.size = some _ := Heap.get?_push_of_some _ (Heap.get?_push_of_some _ (Heap.get?_push_of_some _ (Heap.get?_push_size _ rfl)))
  have o1 : (zh5 s.heap p q).get? s.heap.objs.size = some _ := Heap.get?_push_of_some _ (Heap.get?_push_of_some _ (Heap.get?_push_of_some _ (Heap.get?_push_of_some _ (Heap.get?_push_size _ rfl))))
  have kp : ∀ c o, s.heap.get? c = some o -> (zh5 s.heap p q).get? c = some o := fun c o x => Heap.get?_push_of_some _ (Heap.get?_push_of_some _ (Heap.get?_push_of_some _ (Heap.get?_push_of_some _ (Heap.get?_push_of_some _ x))))
  show _ /\ _
  rw [e2, e3, e4] at o5
  rw [e1, e2] at o3
  rw [e3] at o4
  rw [e1] at o2
  rw [e4]
  exact ⟨⟨_, o5, rfl⟩, K _ o5 o3 o4 ⟨_, o1, rfl, rfl⟩ ⟨_, o2, rfl, rfl⟩ kp⟩
end
noncomputable def Izt (K : PySem.W.Frag) (a b : Addr) : It :=
  ⟨fun i H => ∃ xs ys x y, SqT K H a xs /\ SqT K H b ys /\ xs[i]? = some x /\ ys[i]? = some y,
   fun i H x H' => ∃ p v w, x = .ref p /\ H p = none /\ (∀ xs, SqT K H a xs -> xs[i]? = some v) /\ (∀ ys, SqT K H b ys -> ys[i]? = some w) /\ H' = upd H p (.tup [v, w]),
   fun i H => ∃ xs ys, SqT K H a xs /\ SqT K H b ys /\ (xs.length <= i \/ ys.length <= i)⟩
noncomputable def DI (z TI TO i1 i2 a b : Addr) (i : Nat) (h : Heap) : Prop :=
  IsZip h z TI TO .none /\ IsPair h TI (.ref i1) (.ref i2) /\ (∃ x y, IsPair h TO x y) /\ h.IsTupleIter i1 a i /\ h.IsTupleIter i2 b i /\ a ≠ TO /\ b ≠ TO
theorem p_ {z TI TO i1 i2 a b : Addr} {i : Nat} {h : Heap} {xs ys : Array Value} (A : ZA z TI TO i1 i2) (st : DI z TI TO i1 i2 a b i h) (ha : h.IsTuple a xs) (hb : h.IsTuple b ys) : ZipApart z TI TO i1 i2 a b := by
  obtain ⟨hz, hTI, ⟨x, y, hTO⟩, h1, h2, na, nb⟩ := st
  have cl : ∀ {l : Addr} {vs : Array Value}, h.IsTuple l vs -> l ≠ z /\ l ≠ i1 /\ l ≠ i2 := fun {l vs} hl => by
    obtain ⟨oa, qa, ca, _⟩ := hl
    obtain ⟨o1, q1, c1, _⟩ := h1
    obtain ⟨o2, q2, c2, _⟩ := h2
    refine ⟨fun q => ?_, fun q => ?_, fun q => ?_⟩
    · rw [q, hz] at qa; cases qa; injection ca with w; exact absurd w (by decide)
    · rw [q, q1] at qa; cases qa; rw [c1] at ca; injection ca with w; exact absurd w (by decide)
    · rw [q, q2] at qa; cases qa; rw [c2] at ca; injection ca with w; exact absurd w (by decide)
  obtain ⟨a1, a3, a4⟩ := cl ha
  obtain ⟨b1, b3, b4⟩ := cl hb
  exact ⟨A.TIz, A.TOz, A.i1z, A.i2z, A.TITO, A.TIi1, A.TIi2, A.TOi1, A.TOi2, A.i12, a1, na, a3, a4, b1, nb, b3, b4⟩
theorem yr {P : Program} {w : World} {K : PySem.W.Frag} {elts : List Expr} {k : Nat} {pos : Pos} {a b z TI TO i1 i2 : Addr} (A : ZA z TI TO i1 i2) : Turn P w K (.Tuple elts k pos) (Izt K a b) [z, TI, TO, i1, i2] z (DI z TI TO i1 i2 a b) where
  mem := by simp
  obj := fun i h st c hc => by
    obtain ⟨hz, hTI, ⟨x, y, hTO⟩, ⟨o1, q1, _, d1⟩, ⟨o2, q2, _, d2⟩, _⟩ := st
    simp only [List.mem_cons, List.not_mem_nil, or_false] at hc
    rcases hc with e | e | e | e | e <;> rw [e]
    · exact ⟨_, hz, fun v q => nomatch q⟩
    · exact ⟨_, hTI, fun v q => nomatch q⟩
    · exact ⟨_, hTO, fun v q => nomatch q⟩
    · exact ⟨o1, q1, fun v y => by rw [d1] at y; cases y⟩
    · exact ⟨o2, q2, fun v y => by rw [d2] at y; cases y⟩
  keep := fun i h h' st kk => by
    obtain ⟨hz, hTI, ⟨x, y, hTO⟩, h1, h2, na, nb⟩ := st
    exact ⟨kk z (by simp) _ hz, kk TI (by simp) _ hTI, ⟨x, y, kk TO (by simp) _ hTO⟩, h1.at fun o q => kk i1 (by simp) o q, h2.at fun o q => kk i2 (by simp) o q, na, nb⟩
  item := by
    intro X hP hw hK hc i pins s σ H E I hf st hg
    subst hP hw hK
    obtain ⟨xs, ys, x, y, hq, hr, hx, hy⟩ := hg
    obtain ⟨its, rv, p, hz⟩ := I.tuple hq
    obtain ⟨jts, rw', p', hz'⟩ := I.tuple hr
    have pt : s.heap.IsTuple a its.toArray := p
    have pt' : s.heap.IsTuple b jts.toArray := p'
    obtain ⟨u, hu, ru⟩ := rv.get hx
    obtain ⟨u', hu', ru'⟩ := rw'.get hy
    have D := p_ A st pt pt'
    obtain ⟨z1, z2, ⟨t1, t2, z3⟩, z4, z5, na, nb⟩ := st
    refine yb D z1 z2 z3 z4 z5 pt pt' (x := u) (y := u') (by simpa using hu) (by simpa using hu') fun h1 a1 a2 a3 a4 a5 a6 k1 => ?_
    refine ⟨_, rfl, wpAny_letOwnedTupleGo_zip a1 fun h2 b1 b2 => ?_⟩
    have lt : ∀ {c o}, s.heap.get? c = some o -> s.heap.objs.size ≠ c := fun e => Nat.ne_of_gt (Heap.lt_size e)
    have kk : ∀ c o, c ∉ [z, TI, TO, i1, i2] -> s.heap.get? c = some o -> h2.get? c = some o := fun c o hc q => by
      simp only [List.mem_cons, List.not_mem_nil, or_false, not_or] at hc
      exact b2.extBut _ _ hc.1 (k1 c o hc.1 hc.2.2.1 hc.2.2.2.1 hc.2.2.2.2 q)
    have hn : H s.heap.objs.size = none := I.hok.fresh (Nat.le_refl _)
    have hzT : s.heap.objs.size ≠ z := lt z1
    have nTf : ∀ c ∈ [z, TI, TO, i1, i2], c ≠ s.heap.objs.size := fun c hc => by
      simp only [List.mem_cons, List.not_mem_nil, or_false] at hc
      rcases hc with e | e | e | e | e <;> rw [e]
      · exact (lt z1).symm
      · exact (lt z2).symm
      · exact (lt z3).symm
      · obtain ⟨o, q, _⟩ := z4; exact (lt q).symm
      · obtain ⟨o, q, _⟩ := z5; exact (lt q).symm
    have hT2 : lx h2 s.heap.objs.size #[u, u'] := ⟨_, b2.extBut _ _ hzT a5, ⟨rfl, _, rfl⟩, rfl⟩
    refine ⟨.ref s.heap.objs.size, upd H s.heap.objs.size (.tup [x, y]), I.yielded (t' := s.toks) hf kk (Nat.le_refl _) ⟨by show 2 <= sizeLine; decide, [u, u'], .cons ru (.cons ru' .nil), hT2⟩, rfl, ⟨_, x, y, rfl, hn, fun l hl => by rw [I.gP hl hq]; exact hx, fun l hl => by rw [I.gP hl hr]; exact hy, rfl⟩, ?_, fun c hc => by rw [aW (nTf c hc)]; exact (hf c hc).1⟩
    exact ⟨b1, b2.extBut _ _ A.TIz (k1 _ _ A.TIz A.TITO A.TIi1 A.TIi2 z2), ⟨_, _, b2.extBut _ _ A.TOz a2⟩, a3.extBut b2.extBut A.i1z, a4.extBut b2.extBut A.i2z, na, nb⟩
  done := by
    intro X hP hw hK hc i pins s σ H E I hf st hg
    subst hP hw hK
    obtain ⟨xs, ys, hq, hr, hx⟩ := hg
    obtain ⟨its, rv, p, hz⟩ := I.tuple hq
    obtain ⟨jts, rw', p', hz'⟩ := I.tuple hr
    have pt : s.heap.IsTuple a its.toArray := p
    have pt' : s.heap.IsTuple b jts.toArray := p'
    have D := p_ A st pt pt'
    obtain ⟨z1, z2, ⟨t1, t2, z3⟩, z4, z5, _⟩ := st
    have hl := rv.length
    have hl' := rw'.length
    refine zB (I.ok.hd hc) D z1 z2 z3 z4 z5 pt pt' ?_ fun h' eb => ⟨rfl, I.nO (t' := s.toks) hf fun b u hb q => eb b u (fun z => hb (by simp [z])) (fun z => hb (by simp [z])) (fun z => hb (by simp [z])) (fun z => hb (by simp [z])) q⟩
    rcases hx with hx | hx
    · exact .inl (Array.getElem?_eq_none (by rw [List.size_toArray]; omega))
    · exact .inr (Array.getElem?_eq_none (by rw [List.size_toArray]; omega))
  self := fun A i s Q E st q => wpAny_pyIter_zip st.1 q
noncomputable def Gm (K : PySem.W.Frag) (ta : TA) : TI := fun σ H R => ta σ H fun vs H1 => ∃ a b, vs = [.ref a, .ref b] /\ (((∃ xs, SqL K H1 a xs) /\ (∃ ys, SqL K H1 b ys) /\ R (Izl K a b) H1) \/ ((∃ xs, SqT K H1 a xs) /\ (∃ ys, SqT K H1 b ys) /\ R (Izt K a b) H1))
theorem CD {X : Cx} {elts : List Expr} {kt : Nat} {tp p pos : Pos} {l m : Expr} {ta : TA} (hg : Gl X "zip") (hm : X.mg "zip" = none) (hl : PA X [l, m] ta) (hs : starEach [l, m] X.env = (false, eval l X.env) :: starEach [m] X.env := by rfl) (hp : (backTo pos (starEach [m] X.env)).any (·.1) = false := by rfl) :
    PI X (.Tuple elts kt tp) (.Call (.Name "zip" p) [l, m] [] pos) (Gm X.K ta) := by
  intro pins s σ H R I h
  refine Call_ (iG I hg hm PyProof.Rows.boot_zip (PyProof.Rows.callWith_type1 (thn (hl pos pins s σ H _ I h) fun us s1 ⟨vs, H1, I1, r1, q1⟩ => ?_) hs hp))
  obtain ⟨a, b, e1, q⟩ := q1
  subst e1
  obtain ⟨u1, u2, rfl, rv, rw'⟩ : ∃ u1 u2, us = [u1, u2] /\ RelV (.ref a) u1 /\ RelV (.ref b) u2 := by
    cases r1 with
    | cons p q =>
      cases q with
      | cons p' q' =>
        cases q'
        exact ⟨_, _, rfl, p, p'⟩
  cases rv
  cases rw'
  have ne : ∀ n i j : Nat, i ≠ j -> n + i ≠ n + j := by intro n i j h; omega
  have ap : ZA (s1.heap.objs.size + 4) (s1.heap.objs.size + 2) (s1.heap.objs.size + 3) s1.heap.objs.size (s1.heap.objs.size + 1) := ⟨ne _ 2 4 (by decide), ne _ 3 4 (by decide), ne _ 0 4 (by decide), ne _ 1 4 (by decide), ne _ 2 3 (by decide), ne _ 2 0 (by decide), ne _ 2 1 (by decide), ne _ 3 0 (by decide), ne _ 3 1 (by decide), ne _ 0 1 (by decide)⟩
  have fp : ∀ c ∈ [s1.heap.objs.size + 4, s1.heap.objs.size + 2, s1.heap.objs.size + 3, s1.heap.objs.size, s1.heap.objs.size + 1], kZ X pins H1 c := by
    intro c hc
    have hb' : s1.heap.objs.size <= c := by
      simp only [List.mem_cons, List.not_mem_nil, or_false] at hc
      rcases hc with e | e | e | e | e <;> rw [e]
      · exact Nat.le_add_right _ _
      · exact Nat.le_add_right _ _
      · exact Nat.le_add_right _ _
      · exact Nat.le_refl _
      · exact Nat.le_add_right _ _
    exact I1.ya hb' (I1.hok.fresh hb')
  rcases q with ⟨⟨xs, hq⟩, ⟨ys, hr⟩, q⟩ | ⟨⟨xs, hq⟩, ⟨ys, hr⟩, q⟩
  · obtain ⟨its, rv, pl, hz⟩ := I1.list hq
    obtain ⟨jts, rw', pl', hz'⟩ := I1.list hr
    refine call_zip_2 pl.isList pl'.isList fun h2 y1 y2 y3 y4 y5 hsz kp => wpAny_pyIter_zip (s := { s1 with heap := h2 }) y1 ?_
    exact ⟨s1.heap.objs.size + 4, _, _, _, H1, rfl, I1.kept (t' := s1.toks) kp, yk (a := a) (b := b) ap, ⟨y1, y2, ⟨_, _, y3⟩, y4, y5⟩, fp, q⟩
  · obtain ⟨its, rv, pl, hz⟩ := I1.tuple hq
    obtain ⟨jts, rw', pl', hz'⟩ := I1.tuple hr
    have pt : s1.heap.IsTuple a its.toArray := pl
    have pt' : s1.heap.IsTuple b jts.toArray := pl'
    have la : a < s1.heap.objs.size := pl.lt
    have lb : b < s1.heap.objs.size := pl'.lt
    refine xW pt pt' fun h2 y1 y2 y3 y4 y5 kp => wpAny_pyIter_zip (s := { s1 with heap := h2 }) y1 ?_
    refine ⟨s1.heap.objs.size + 4, _, _, _, H1, rfl, I1.kept (t' := s1.toks) kp, yr (a := a) (b := b) ap, ⟨y1, y2, ⟨_, _, y3⟩, y4, y5, ?_, ?_⟩, fp, q⟩
    · exact Nat.ne_of_lt (Nat.lt_of_lt_of_le la (Nat.le_add_right _ _))
    · exact Nat.ne_of_lt (Nat.lt_of_lt_of_le lb (Nat.le_add_right _ _))
end L2
namespace L2.FE
open PySem PySem.Spec PyProof.Rows
section
variable {X : Cx} {g : GG} {ε : EE} {K : PySem.W.Frag}
noncomputable def Co : List D -> Hh -> R Src
  | [.frl ds, .frl es], h => .ok (.snap (kK ds es)) h
  | [.tup ds, .tup es], h => .ok (.snap (kK ds es)) h
  | _, _ => .bad
noncomputable def xt (a : MA) : MI := fun env h => (a env h).bind Co
theorem wt {α : List Addr} {H : Hp} {a b : Addr} {ds es : List D} {vs ws : List V} (hq : H a = some (.tup vs)) (rs : az K g α H ds vs) (hq' : H b = some (.tup ws)) (rs' : az K g α H es ws) : Reads K g (Izt K a b) (Src.snap (kK ds es)).rdr α H := by
  intro α2 H2 h2 x2 hr i
  have hq2 : SqT K H2 a vs := SqT.of (x2.tup _ _ hq)
  have hq2' : SqT K H2 b ws := SqT.of (x2.tup _ _ hq')
  have rs2 := rs.ext x2
  have rs2' := rs'.ext x2
  show match some (kK ds es)[i]? with | none => True | some none => _ | some (some d) => _
  rw [kY]
  cases e : ds[i]? with
  | none =>
    have : ds.length <= i := List.getElem?_eq_none_iff.mp e
    exact ⟨vs, ws, hq2, hq2', .inl (by rw [<- rs.length]; exact this)⟩
  | some d =>
    cases e' : es[i]? with
    | none =>
      have : es.length <= i := List.getElem?_eq_none_iff.mp e'
      exact ⟨vs, ws, hq2, hq2', .inr (by rw [<- rs'.length]; exact this)⟩
    | some d' =>
      obtain ⟨v, ev, rv⟩ := rs2.get e
      obtain ⟨v', ev', rv'⟩ := rs2'.get e'
      refine ⟨⟨vs, ws, v, v', hq2, hq2', ev, ev'⟩, fun x H' y => ?_⟩
      obtain ⟨p, u, u', e1, hp, e2, e2', e3⟩ := y
      subst e1 e3
      have := e2 vs hq2
      rw [ev] at this
      cases this
      have := e2' ws hq2'
      rw [ev'] at this
      cases this
      exact wW hr rv rv' hp
theorem BP {elts : List Expr} {kt : Nat} {tp p pos : Pos} {e e' : Expr} {ma : MA} (hg : Gl X "zip") (hm : X.mg "zip" = none) (he : PA X [e, e'] (tMA X.K g ε ma)) (hs : starEach [e, e'] X.env = (false, eval e X.env) :: starEach [e'] X.env := by rfl) (hp : (backTo pos (starEach [e'] X.env)).any (·.1) = false := by rfl) : PI X (.Tuple elts kt tp) (.Call (.Name "zip" p) [e, e'] [] pos) (tMI X.K g ε (xt ma)) :=
  PI.imp (CD hg hm he hs hp) fun σ H T ⟨α, env, h, s, w⟩ => tMA.use s w.bind fun d1 h1 v1 H1 α1 e1 s1 r1 w1 => by
    unfold Co at w1
    split at w1
    · cases r1 with
      | cons ra rr =>
        cases rr with
        | cons rb rr =>
          cases rr
          cases ra with
          | frl hq rs =>
            cases rb with
            | frl hq' rs' => exact ⟨_, _, rfl, .inl ⟨⟨_, hq.sq⟩, ⟨_, hq'.sq⟩, w1 _ H1 α1 e1 s1.heap (xX hq.fro rs hq'.fro rs')⟩⟩
    · cases r1 with
      | cons ra rr =>
        cases rr with
        | cons rb rr =>
          cases rr
          cases ra with
          | tup hq rs =>
            cases rb with
            | tup hq' rs' => exact ⟨_, _, rfl, .inr ⟨⟨_, SqT.of hq⟩, ⟨_, SqT.of hq'⟩, w1 _ H1 α1 e1 s1.heap (wt hq rs hq' rs')⟩⟩
    · exact w1.elim
end
end L2.FE
namespace L2
open PySem PySem.Spec PyProof.Rows
section
variable {prog : Program} {w : World} {A : Around} {E : Value -> Shared -> Prop} {s : Shared}
theorem A8 {l : Addr} {vs : List Value} {Q : List Value -> Shared -> Prop} (hl : s.heap.IsTuple l vs.toArray) (hz : vs.length <= sizeLine)
    (h : Q vs { s with heap := (s.heap.push (seqObj "list" #[] 0)).update s.heap.objs.size (Obj.mapSeq (· ++ vs.toArray)) }) : wpAny (model prog w) A (collect (.ref l)) Q E s := by
  obtain ⟨o, ho, hc, n, hd⟩ := hl
  unfold collect; refine wpAny_bind (wpAny_runValue (codeAny_builtin entry_proto_collect' ?_)); show wpAny _ _ (do again (.builtin "list.__iadd__" ⟨[<- newList [], .ref l], []⟩)) _ _ s
  refine wpAny_bind (wpAny_newList (wpAny_pure ⟨Code.quiet_builtin _ (by decide +kernel), codeAny_builtin entry_list_iadd' ?_⟩))
  show wpAny _ _ (Builtin.List.listExtendWith (.ref s.heap.objs.size) (.ref l) (.ref s.heap.objs.size)) _ _ { s with heap := s.heap.push (seqObj "list" #[] 0) }; unfold Builtin.List.listExtendWith
  have g1 : (s.heap.push (seqObj "list" #[] 0)).get? l = some o := Heap.get?_push_of_some _ ho
  refine wpAny_bind (wpAny_typeOf (T := "tuple") ⟨o, g1, hc⟩ ?_)
  rw [if_pos (by rw [show (Value.type "tuple" == Value.type "tuple") = true from rfl, Bool.or_true])]
  refine wpAny_bind (listItems_at g1 hd (wpAny_bind (listItems_at (xs := #[]) (n := 0) (Heap.get?_push_size _ rfl) rfl ?_)))
  rw [if_neg (by simp)]
  refine wpAny_bind (listUpdate_at (xs := #[]) (n := 0) (Heap.get?_push_size _ rfl) rfl (wpAny_pure ?_) (Nat.zero_le _) (by show (#[] ++ vs.toArray).size <= sizeLine + 1; simp; omega))
  show wpAny (model prog w) A (do
      let o ← load s.heap.objs.size
      match o.data with
      | .seq xs _ => pure xs.toList
      | _ => unsupported "internal:collect") Q E { s with heap := (s.heap.push (seqObj "list" #[] 0)).update s.heap.objs.size (Obj.mapSeq (· ++ vs.toArray)) }
  refine wpAny_bind (wpAny_load (get?_update_seq (Heap.get?_push_size _ rfl) _) ?_)
  have e : ((#[] : Array Value) ++ vs.toArray).toList = vs := by simp
  show wpAny _ _ (pure ((#[] : Array Value) ++ vs.toArray).toList) Q E _; rw [e]; exact wpAny_pure h
theorem Gp {l : Addr} {vs : List Value} {ns : List Int} {Q : Value -> Shared -> Prop} (hl : s.heap.IsTuple l vs.toArray) (hI : IntsAre vs ns) (h64 : vs.length < 64)
    (h : ∀ (out : Array Value) (ms : List Int), IntsAre out.toList ms -> ms.Perm ns -> ms.Pairwise (· <= ·) -> Q (.ref (s.heap.objs.size + 1)) { s with heap := sortedAll s.heap vs out }) : wpAny (model prog w) A (call (.builtin "sorted") [.ref l]) Q E s := by
  refine Calls.call_function_entry kind_sorted plain_sorted entry_sorted (args_sorted1 _) ?_; unfold Builtin.«sorted»
  refine wpAny_bind (m := checkCount "sorted" 1 1 _) (wpAny_pure (wpAny_bind (A8 hl (by have : 64 <= sizeLine := by decide
                                                                                        omega) (wpAny_bind (wpAny_newList ?_)))))
  have n1 : ((s.heap.push (seqObj "list" #[] 0)).update s.heap.objs.size (Obj.mapSeq (· ++ vs.toArray))).objs.size = s.heap.objs.size + 1 := (Heap.size_update ..).trans (size_push' ..)
  have o1 : (((s.heap.push (seqObj "list" #[] 0)).update s.heap.objs.size (Obj.mapSeq (· ++ vs.toArray))).push (seqObj "list" vs.toArray 0)).get? (s.heap.objs.size + 1) = some (seqObj "list" vs.toArray 0) := n1 ▸ Heap.get?_push_size _ rfl
  show wpAny _ _ _ _ _ { s with heap := ((s.heap.push (seqObj "list" #[] 0)).update s.heap.objs.size (Obj.mapSeq (· ++ vs.toArray))).push (seqObj "list" vs.toArray 0) }; rw [n1]
  exact wpAny_bind (wpAny_holding (wpAny_call_entry slot_list_sort ⟨_, o1, rfl⟩ entry_list_sort (list_sort_tree o1 hI h64 fun out ms a1 a2 a3 => ⟨_, rfl, wpAny_pure ⟨_, rfl, h out ms a1 a2 a3⟩⟩) (args_list_sort _)))
end
noncomputable def insI (x : Int) : List Int -> List Int
  | [] => [x]
  | y :: r => if x <= y then x :: y :: r else y :: insI x r
noncomputable def sortI : List Int -> List Int
  | [] => []
  | x :: r => insI x (sortI r)
theorem insI_perm (x : Int) : ∀ l, (insI x l).Perm (x :: l)
  | [] => .refl _
  | y :: r => by
    unfold insI
    split
    · exact .refl _
    · exact ((insI_perm x r).cons y).trans (.swap _ _ _)
theorem sortI_perm : ∀ l, (sortI l).Perm l
  | [] => .refl _
  | x :: r => (insI_perm x (sortI r)).trans ((sortI_perm r).cons x)
theorem mP (x : Int) : ∀ l : List Int, l.Pairwise (· <= ·) -> (insI x l).Pairwise (· <= ·)
  | [], _ => by simp [insI]
  | y :: r, h => by
    unfold insI
    rw [List.pairwise_cons] at h
    split
    · rename_i hx
      refine List.pairwise_cons.mpr ⟨fun z hz => ?_, List.pairwise_cons.mpr h⟩
      rcases List.mem_cons.mp hz with rfl | hz
      · exact hx
      · exact Int.le_trans hx (h.1 z hz)
    · rename_i hx
      refine List.pairwise_cons.mpr ⟨fun z hz => ?_, mP x r h.2⟩
      rcases List.mem_cons.mp ((insI_perm x r).mem_iff.mp hz) with rfl | hz
      · omega
      · exact h.1 z hz
theorem iH : ∀ l, (sortI l).Pairwise (· <= ·)
  | [] => .nil
  | x :: r => mP x _ (iH r)
theorem jw : ∀ {xs ys : List Int}, xs.Perm ys -> xs.Pairwise (· <= ·) -> ys.Pairwise (· <= ·) -> xs = ys
  | [], ys, p, _, _ => by rw [List.Perm.eq_nil p.symm]
  | x :: xs, [], p, _, _ => absurd (List.Perm.eq_nil p) (by simp)
  | x :: xs, y :: ys, p, hx, hy => by
    rw [List.pairwise_cons] at hx hy
    have e : x = y := by
      have a : x ∈ y :: ys := p.mem_iff.mp List.mem_cons_self
      have b : y ∈ x :: xs := p.mem_iff.mpr List.mem_cons_self
      have a' : y <= x := by
        rcases List.mem_cons.mp a with rfl | a
        · exact Int.le_refl _
        · exact hy.1 x a
      have b' : x <= y := by
        rcases List.mem_cons.mp b with rfl | b
        · exact Int.le_refl _
        · exact hx.1 y b
      omega
    subst e
    rw [jw (List.perm_cons x |>.mp p) hx.2 hy.2]
theorem qc : ∀ {ns : List Int} {us : List Value}, Vals (ns.map V.int) us -> IntsAre us ns
  | [], _, .nil => .nil
  | n :: ns, _, .cons r t => by
    obtain ⟨t', rfl⟩ := r
    exact .cons _ _ (qc t)
theorem rk : ∀ {us : List Value} {ns : List Int}, IntsAre us ns -> Vals (ns.map V.int) us
  | _, _, .nil => .nil
  | _, _, .cons _ _ t => .cons ⟨_, rfl⟩ (rk t)
section
variable {X : Cx}
theorem yi : bO X (.builtin "sorted") (fun vs H Q => ∃ (p : Addr) (ns : List Int), vs = [.ref p] /\ (SqL X.K H p (ns.map V.int) \/ SqT X.K H p (ns.map V.int)) /\ ns.length < 64 /\ ∀ l, H l = none -> Q (.ref l) (upd H l (.lst ((sortI ns).map V.int)))) := by
  intro pins s σ H xs us Q I r h
  obtain ⟨p, ns, rfl, hq, h64, q⟩ := h
  obtain ⟨u, rfl, rx⟩ := vals1 r
  cases rx
  have fin : ∀ {its : List Value} (out : Array Value) (ms : List Int), IntsAre out.toList ms -> ms.Perm ns -> ms.Pairwise (· <= ·) -> EP X pins σ Q (.ref (s.heap.objs.size + 1)) { s with heap := sortedAll s.heap its out } := fun {its} out ms a1 a2 a3 => by
    have e : ms = sortI ns := jw (a2.trans (sortI_perm ns).symm) a3 (iH ns)
    subst e
    obtain ⟨k, hk⟩ := sortedAll_at s.heap its out
    have hn : H (s.heap.objs.size + 1) = none := I.hok.fresh (Nat.le_succ _)
    have len : ((sortI ns).map V.int).length <= sizeLine := by
      have : 64 <= sizeLine := by decide
      rw [List.length_map, (sortI_perm ns).length_eq]; omega
    refine ⟨.ref (s.heap.objs.size + 1), upd H (s.heap.objs.size + 1) (.lst ((sortI ns).map V.int)), I.laid (t' := s.toks) (fun _ _ z => sortedAll_old z) (Nat.le_succ _) ⟨len, out.toList, k, rk a1, ?_⟩, rfl, q _ hn⟩
    rw [hk]
  rcases hq with hq | hq
  · obtain ⟨its, rv, pl, hz⟩ := I.list hq
    have hl := rv.length
    rw [List.length_map] at hl
    exact sorted_ints pl.isList (qc rv) (by omega) fin
  · obtain ⟨its, rv, pl, hz⟩ := I.tuple hq
    have hl := rv.length
    rw [List.length_map] at hl
    exact Gp (show s.heap.IsTuple p its.toArray from pl) (qc rv) (by omega) fin
end
end L2
namespace L2.FE
open PySem PySem.Spec PyProof.Rows
section
variable {X : Cx} {g : GG} {ε : EE} {K : PySem.W.Frag}
noncomputable def lA (nl : NL) : List D -> Hh -> R D := fun ds h => match ds with
  | [d] => match iT d h with
    | some xs => match intsOf xs with
      | some ns => if ns.length < 64 then nl ((sortI ns).map D.int) h else .bad
      | none => .bad
    | none => .bad
  | _ => .bad
theorem u6 {α : List Addr} {H : Hp} : ∀ (ns : List Int), az K g α H (ns.map D.int) (ns.map V.int)
  | [] => .nil
  | n :: ns => .cons (.int n) (u6 ns)
theorem B8 {nl : NL} [iN nl] : lQ K g ε (lA nl) (fun vs H Q => ∃ (p : Addr) (ns : List Int), vs = [.ref p] /\ (SqL K H p (ns.map V.int) \/ SqT K H p (ns.map V.int)) /\ ns.length < 64 /\ ∀ l, H l = none -> i4 Q (.ref l) (upd H l (.lst ((sortI ns).map V.int)))) := by
  intro α H h a x Q r ra w
  obtain ⟨d, v, rfl, rfl, rd⟩ := kg (f := lA nl) (fun _ _ _ _ => rfl) (fun _ => rfl) ra w
  unfold lA at w
  simp only at w
  cases e : iT d h with
  | none => rw [e] at w; exact w.elim
  | some ds =>
    rw [e] at w
    simp only at w
    cases e2 : intsOf ds with
    | none => rw [e2] at w; exact w.elim
    | some ns =>
      rw [e2] at w
      simp only at w
      obtain ⟨h64, w⟩ := WQ.e_ w
      obtain ⟨p, vs, rfl, hq, rs⟩ := rW r rd e
      have e3 := dy e2
      subst e3
      have e4 := rs.qT
      subst e4
      exact ⟨p, ns, rfl, hq, h64, fun l hl => NL.post w r (u6 _) hl⟩
end
end L2.FE
namespace L2
open PySem PySem.Spec PyProof.Rows
noncomputable def Its (lo st : Int) (n : Nat) : It := ⟨fun i _ => i < n, fun i H x H' => H' = H /\ x = .int (lo + i * st), fun i _ => n <= i⟩
theorem yB {P : Program} {w : World} {K : PySem.W.Frag} {tg : Expr} (it : Addr) (lo st : Int) (n : Nat) : Turn P w K tg (Its lo st n) [it] it (fun i h => IsRangeIter h it (lo + (i : Nat) * st) ((n : Int) - (i : Nat)) st) where
  mem := by simp
  obj := fun i h q b hb => by
    have e : b = it := by simpa using hb
    subst e
    exact ⟨_, q, fun v z => by
      have z' : Data.fields _ = Data.cell v := z
      cases z'⟩
  keep := fun i h h' q k => k it (by simp) _ q
  item := by
    intro X hP hw hK hc i pins s σ H E I hf q hg
    subst hP hw hK
    obtain ⟨f0, f1, f2, f3, f4, f5⟩ := hf it (by simp)
    have W := Walks.range (prog := X.prog) (w := X.w) (I.ok.hd hc) it lo st n
    refine W.item i s _ _ hg q fun v h' tk hv q' kk => ?_
    obtain ⟨t, rfl⟩ := hv
    have I1 : Inv X pins σ H { s with heap := h', toks := tk } := I.turned (fun b o hb e => kk b o (by simpa using hb) e) f0 f1 f3 f4 f5
    exact ⟨_, rfl, xh (s := { s with heap := h', toks := tk }) (n := "range_iterator") q' rfl rfl (by decide) ⟨.int (lo + i * st), H, I1, ⟨t, rfl⟩, ⟨rfl, rfl⟩, q', fun b hb => (hf b hb).1⟩⟩
  done := by
    intro X hP hw hK hc i pins s σ H E I hf q hg
    subst hP hw hK
    obtain ⟨f0, f1, f2, f3, f4, f5⟩ := hf it (by simp)
    exact wpAny_pyNext_range_end (I.ok.hd hc) q (by have : n <= i := hg; omega) fun h' eb => ⟨rfl, I.turned (t' := s.toks) (fun b o hb e => eb b o hb e) f0 f1 f3 f4 f5⟩
  self := fun _ _ _ _ _ q h => wpAny_pyIter_rangeiter q h
section
variable {X : Cx} {tg : Expr}
theorem BL {pins : List (Addr × Obj)} {σ : St} {H : Hp} {s : Shared} {R : It -> Hp -> Prop} {E : Value -> Shared -> Prop} {lo hi st : Int} {n : Nat} {t u v : Tok} {tk : Nat} (I : Inv X pins σ H s) (ok : pR lo hi st n)
    (q : R (Its lo st n) H) : wpAny (model X.prog X.w) X.A (pyIter (.ref s.heap.objs.size)) (PIE X pins σ tg R) E { s with heap := s.heap.push { cls := .type "range", data := .fields #[.int lo t, .int hi u, .int st v] }, toks := tk } := by
  refine wpAny_pyIter_range (IsRange.new ..) ok.sm ?_
  have I1 : Inv X pins σ H { s with heap := s.heap.push { cls := .type "range", data := .fields #[.int lo t, .int hi u, .int st v] }, toks := tk } := I.kept fun b o e => Heap.get?_push_of_some _ e
  refine ⟨(s.heap.push { cls := .type "range", data := .fields #[.int lo t, .int hi u, .int st v] }).objs.size, [(s.heap.push { cls := .type "range", data := .fields #[.int lo t, .int hi u, .int st v] }).objs.size], _, _, H, rfl,
    I1.kept (t' := tk) fun b o e => Heap.get?_push_of_some _ e, yB _ lo st n, ?_, fun b hb => ?_, q⟩
  · have e1 : lo + ((0 : Nat) : Int) * st = lo := by simp
    have e2 : (n : Int) - ((0 : Nat) : Int) = Builtin.Range.rangeSize lo hi st := by rw [ok.sz]; omega
    show IsRangeIter _ _ (lo + ((0 : Nat) : Int) * st) ((n : Int) - ((0 : Nat) : Int)) st
    rw [e1, e2]
    exact Heap.get?_push_size _ rfl
  · have e : b = (s.heap.push { cls := .type "range", data := .fields #[.int lo t, .int hi u, .int st v] }).objs.size := by simpa using hb
    subst e
    exact I1.ya (Nat.le_refl _) (I1.hok.fresh (Nat.le_refl _))
noncomputable def FW (ta : TA) : TI := fun σ H R => ta σ H fun vs H1 => ∃ (i j k : Int) (n : Nat), vs = [.int i, .int j, .int k] /\ k ≠ 0 /\ k.natAbs < 1073741824 /\ pR i j k n /\ R (Its i k n) H1
theorem yA {a b c : Expr} {ta : TA} {p pos : Pos} (hg : Gl X "range") (hm : X.mg "range" = none) (ha : PA X [a, b, c] ta) (hs : starEach [a, b, c] X.env = (false, eval a X.env) :: starEach [b, c] X.env := by rfl) (hp : (backTo pos (starEach [b, c] X.env)).any (·.1) = false := by rfl) :
    PI X tg (.Call (.Name "range" p) [a, b, c] [] pos) (FW ta) := by
  intro pins s σ H R I h
  refine Call_ (iG I hg hm boot_range (PyProof.Rows.callWith_type1 (thn (ha pos pins s σ H _ I h) fun us s1 ⟨vs, H1, I1, r1, q1⟩ => ?_) hs hp))
  obtain ⟨i, j, k, n, e, k0, k1, ok, q⟩ := q1
  subst e
  cases r1 with
  | cons r rr =>
    cases rr with
    | cons r' rr =>
      cases rr with
      | cons r'' rr =>
        cases rr
        obtain ⟨t, rfl⟩ := r
        obtain ⟨t', rfl⟩ := r'
        obtain ⟨t'', rfl⟩ := r''
        exact call_range_3 k0 (BL I1 ok q) (.inl (PyProof.noPylong_small (by omega)))
end
end L2
namespace L2.FE
open PySem PySem.Spec PyProof.Rows
section
variable {X : Cx} {g : GG} {ε : EE} {K : PySem.W.Frag}
noncomputable def mX : List D -> Hh -> R Src := fun ds h => match Ad ds with
  | some xs => .ok (.snap xs) h
  | none => .bad
theorem vJ {α : List Addr} {H : Hp} {lo st : Int} {n : Nat} : Reads K g (Its lo st n) (Src.snap (mI lo st n)).rdr α H := by
  intro α2 H2 h2 x2 hr i
  show match some (mI lo st n)[i]? with | none => True | some none => _ | some (some d) => _
  by_cases hi : i < n
  · have e : (mI lo st n)[i]? = some (.int (lo + i * st)) := by
      unfold mI
      rw [List.getElem?_map]
      simp [qq, hi]
    rw [e]
    refine ⟨hi, fun x H' y => ?_⟩
    obtain ⟨rfl, rfl⟩ := y
    exact ⟨α2, Ext.refl, hr, .int _⟩
  · have e : (mI lo st n)[i]? = none := List.getElem?_eq_none (by unfold mI; rw [List.length_map, mM]; omega)
    rw [e]
    show n <= i
    omega
theorem Ca {tg a b c : Expr} {ma : MA} {p pos : Pos} (hg : Gl X "range") (hm : X.mg "range" = none) (ha : PA X [a, b, c] (tMA X.K g ε ma)) (hs : starEach [a, b, c] X.env = (false, eval a X.env) :: starEach [b, c] X.env := by rfl) (hp : (backTo pos (starEach [b, c] X.env)).any (·.1) = false := by rfl) : PI X tg (.Call (.Name "range" p) [a, b, c] [] pos) (tMI X.K g ε (dY mX ma)) :=
  PI.imp (yA hg hm ha hs hp) fun σ H T ⟨α, env, h, s, w⟩ => tMA.use s w.bind fun d1 h1 v1 H1 α1 e1 s1 r1 w1 => by
    unfold mX at w1
    cases er : Ad d1 with
    | none => rw [er] at w1; exact w1.elim
    | some xs =>
      rw [er] at w1
      obtain ⟨a, b, c, n, rfl, c0, c1, ok, rfl⟩ := Bq r1 er
      exact ⟨a, b, c, n, rfl, c0, c1, ok, w1 _ H1 α1 e1 s1.heap vJ⟩
end
end L2.FE
namespace L2.FE
open PySem
section
variable {β γ : Type} {h h1 : Hh} {env : En}
@[simp] theorem cm {b : β} {f : β -> Hh -> R γ} : (R.ok b h).bind f = f b h := Eq.trans rfl rfl
@[simp] theorem e_C {d : D} : cC d env h = .ok d h := Eq.trans rfl rfl
@[simp] theorem FO {d : D} {r : En} : ag 0 (some d :: r) h = .ok d h := Eq.trans rfl rfl
@[simp] theorem Ff {i : Nat} {x : Option D} {r : En} : ag (i + 1) (x :: r) h = ag i r h := Eq.trans rfl rfl
@[simp] theorem Ji {f : D -> D -> Hh -> R D} {a b : ME} : ao f a b env h = (a env h).bind fun x h1 => (b env h1).bind fun y h2 => f x y h2 := Eq.trans rfl rfl
@[simp] theorem JI {f : D -> Hh -> R D} {a : ME} : cUn f a env h = (a env h).bind fun x h1 => f x h1 := Eq.trans rfl rfl
@[simp] theorem F4 : ak env h = .ok [] h := Eq.trans rfl rfl
@[simp] theorem Fz {a : ME} {r : MA} : aa a r env h = (a env h).bind fun x h1 => (r env h1).bind fun xs h2 => .ok (x :: xs) h2 := Eq.trans rfl rfl
@[simp] theorem D9 {f : List D -> Hh -> R D} {a : MA} : ah f a env h = (a env h).bind f := Eq.trans rfl rfl
@[simp] theorem BY {f : D -> List D -> Hh -> R D} {o : ME} {a : MA} : fe f o a env h = (o env h).bind fun x h1 => if isL x h1 = true then (a env h1).bind fun xs h2 => f x xs h2 else .bad := Eq.trans rfl rfl
@[simp] theorem HH {f : D -> Hh -> R Bool} {a : ME} : aI f a env h = (a env h).bind f := Eq.trans rfl rfl
@[simp] theorem Ia {a : MT} : jF a env h = (a env h).bind fun b h1 => .ok (!b) h1 := Eq.trans rfl rfl
@[simp] theorem IQ {a b : MT} : nY a b env h = (a env h).bind fun x h1 => if x = true then b env h1 else .ok false h1 := Eq.trans rfl rfl
@[simp] theorem JA {a b : MT} : lJ a b env h = (a env h).bind fun x h1 => if x = true then .ok true h1 else b env h1 := Eq.trans rfl rfl
@[simp] theorem JE {c : MT} {a b : ME} : cIf c a b env h = (c env h).bind fun x h1 => if x = true then a env h1 else b env h1 := Eq.trans rfl rfl
@[simp] theorem Jy {b : Bool} : asB (.bl b) h = .ok b h := Eq.trans rfl rfl
@[simp] theorem Ii {a b : ME} : xa a b env h = (a env h).bind fun x h1 => (asB x h1).bind fun k h2 => if k = true then b env h2 else .ok (.bl false) h2 := Eq.trans rfl rfl
@[simp] theorem H_ {a : ME} : A7 a env h = (a env h).bind fun x h1 => (asB x h1).bind fun k h2 => .ok (.bl (!k)) h2 := Eq.trans rfl rfl
@[simp] theorem Hk {f f' : D -> D -> Hh -> R D} {a b c : ME} : kE f f' a b c env h = (a env h).bind fun x h1 => (b env h1).bind fun y h2 => (f x y h2).bind fun z h3 => (asB z h3).bind fun k h4 => if k = true then (c env h4).bind fun w h5 => f' y w h5 else .ok (.bl false) h4 := Eq.trans rfl rfl
@[simp] theorem F8 : gk env h = .ok none h := Eq.trans rfl rfl
noncomputable def DN : D -> Hh -> R (Option Int) := fun d h1 => match d with
  | .int i => .ok (some i) h1
  | _ => .bad
@[simp] theorem Ho {i : Int} : DN (.int i) h = .ok (some i) h := Eq.trans rfl rfl
@[simp] theorem Ir {a : ME} : iU a env h = (a env h).bind DN := Eq.trans rfl rfl
@[simp] theorem Hu {nl : NL} {a : ME} {l u : MO} : gu nl a l u env h = (a env h).bind fun x h1 => (l env h1).bind fun lo h2 => (u env h2).bind fun hi h3 => ze nl x lo hi h3 := Eq.trans rfl rfl
@[simp] theorem HF : bX env h = .ok (.nx env) h := Eq.trans rfl rfl
noncomputable def Ep (b : MS) : Fl -> Hh -> R Fl := fun fl h1 => match fl with
  | .nx e => b e h1
  | fl => .ok fl h1
@[simp] theorem JG {b : MS} {e : En} : Ep b (.nx e) h = b e h := Eq.trans rfl rfl
@[simp] theorem JH {b : MS} {d : D} : Ep b (.rt d) h = .ok (.rt d) h := Eq.trans rfl rfl
@[simp] theorem Jk {a b : MS} : aG a b env h = (a env h).bind (Ep b) := by
  unfold aG
  first | rfl | (congr 1; funext fl h1; cases fl <;> rfl)
@[simp] theorem IA {a : ME} : cb a env h = (a env h).bind fun _ h1 => .ok (.nx env) h1 := Eq.trans rfl rfl
@[simp] theorem Jl {a : ME} : br a env h = (a env h).bind fun d h1 => .ok (.rt d) h1 := Eq.trans rfl rfl
@[simp] theorem Jf {c : MT} {a b : MS} : dA c a b env h = (c env h).bind fun x h1 => if x = true then a env h1 else b env h1 := Eq.trans rfl rfl
@[simp] theorem Js {i : Nat} {a : ME} : bC i a env h = (a env h).bind fun d h1 => .ok (.nx (env.set i (some d))) h1 := Eq.trans rfl rfl
noncomputable def GD (i j : Nat) (env : En) : List D -> Hh -> R Fl := fun ds h1 => match ds with
  | [x, y] => .ok (.nx ((env.set i (some x)).set j (some y))) h1
  | _ => .bad
@[simp] theorem IS {i j : Nat} {x y : D} : GD i j env [x, y] h = .ok (.nx ((env.set i (some x)).set j (some y))) h := Eq.trans rfl rfl
@[simp] theorem Jj {i j : Nat} {a : MA} : xY i j a env h = (a env h).bind (GD i j env) := by
  rfl
@[simp] theorem C4 {i : Nat} {d : D} : gN i d env h = .ok (env.set i (some d)) h := Eq.trans rfl rfl
@[simp] theorem JB {i j : Nat} {x y : D} : gT2 i j (.tup [x, y]) env h = .ok ((env.set i (some x)).set j (some y)) h := Eq.trans rfl rfl
@[simp] theorem Jv {i j : Nat} {a : ME} : zL i j a env h = (a env h).bind fun d h1 => (gT2 i j d env h1).bind fun e h2 => .ok (.nx e) h2 := Eq.trans rfl rfl
@[simp] theorem Hr {f : D -> D -> D -> Hh -> R Unit} {o i v : ME} : eO f o i v env h = (v env h).bind fun x h1 => (o env h1).bind fun y h2 => (i env h2).bind fun z h3 => (f y z x h3).bind fun _ h4 => .ok (.nx env) h4 := Eq.trans rfl rfl
@[simp] theorem Hl {o i v : ME} : sA o i v env h = (o env h).bind fun x h1 => (i env h1).bind fun y h2 => (yc x y h2).bind fun z h3 => (v env h3).bind fun u h4 => (uz z u h4).bind fun t h5 => (cF x y t h5).bind fun _ h6 => .ok (.nx env) h6 := Eq.trans rfl rfl
noncomputable def EC : Fl -> Hh -> R D := fun fl h1 => match fl with
  | .rt d => .ok d h1
  | .nx _ => .ok .non h1
  | _ => .bad
@[simp] theorem JF {d : D} : EC (.rt d) h = .ok d h := Eq.trans rfl rfl
@[simp] theorem JJ {e : En} : EC (.nx e) h = .ok .non h := Eq.trans rfl rfl
theorem bz {n : Nat} {m : MS} {ds : List D} : b8 n m ds h = (m (ds.map some ++ List.replicate (n - ds.length) none) h).bind EC := by
  unfold b8
  first | rfl | (congr 1; funext fl h1; cases fl <;> rfl)
section
variable {nl : NL}
@[simp] theorem HJ {i j : Int} : bB nl (.int i) (.int j) h = .ok (.int (i + j)) h := Eq.trans rfl rfl
@[simp] theorem Hz {i j : Int} : uz (.int i) (.int j) h = .ok (.int (i + j)) h := Eq.trans rfl rfl
@[simp] theorem IK {i j : Int} : fq (.int i) (.int j) h = .ok (.int (i - j)) h := Eq.trans rfl rfl
@[simp] theorem IF {i : Int} : jQ (.int i) h = .ok (.int (-i)) h := Eq.trans rfl rfl
@[simp] theorem Jg {i j : Int} : dLt (.int i) (.int j) h = .ok (.bl (decide (i < j))) h := by unfold dLt; rw [oP]; rfl
@[simp] theorem Jn {i j : Int} : dLe (.int i) (.int j) h = .ok (.bl (decide (i <= j))) h := by unfold dLe; rw [sE]; rfl
@[simp] theorem Jp {i j : Int} : dGt (.int i) (.int j) h = .ok (.bl (decide (j < i))) h := by unfold dGt; rw [oP]; rfl
@[simp] theorem Jq {i j : Int} : dGe (.int i) (.int j) h = .ok (.bl (decide (j <= i))) h := by unfold dGe; rw [sE]; rfl
@[simp] theorem Ik {i j : Int} : f7 nl (.int i) (.int j) h = if sml i = true /\ sml j = true then .ok (.int (i * j)) h else .bad := Eq.trans rfl rfl
@[simp] theorem IM {i j : Int} : Aj (.int i) (.int j) h = if 0 < j /\ sml j = true then .ok (.int (i / j)) h else .bad := Eq.trans rfl rfl
@[simp] theorem IE {i j : Int} : vd (.int i) (.int j) h = if 0 < j then .ok (.int (i % j)) h else .bad := Eq.trans rfl rfl
@[simp] theorem IJ {i j : Int} : Cv (.int i) (.int j) h = if 0 <= j /\ j.natAbs <= 1000 /\ sml i = true then .ok (.int (i ^ j.toNat)) h else .bad := Eq.trans rfl rfl
@[simp] theorem IU {i j : Int} : Av [.int i, .int j] h = .ok (.int (max i j)) h := by
  have : (if j > i then j else i) = max i j := by split <;> omega
  rw [<- this]; rfl
@[simp] theorem Iv {b : Bool} : y0 [.bl b] h = .ok (.int (if b then 1 else 0)) h := Eq.trans rfl rfl
@[simp] theorem Jt {ds : List D} : lW ds h = if ds.length <= 1000000 then .ok (.tup ds) h else .bad := Eq.trans rfl rfl
@[simp] theorem Jw {ds : List D} : fo nl ds h = if ds.length <= 1000000 then nl ds h else .bad := Eq.trans rfl rfl
@[simp] theorem HS {ds : List D} : iY ds h = .ok (.ref h.length) (h ++ [.lst ds]) := Eq.trans rfl rfl
@[simp] theorem Ib {ds : List D} : aC ds h = .ok (.frl ds) h := Eq.trans rfl rfl
@[simp] theorem HP {ds : List D} : bF [.tup ds] h = .ok (.int ds.length) h := Eq.trans rfl rfl
@[simp] theorem IV {ds : List D} : bF [.frl ds] h = .ok (.int ds.length) h := Eq.trans rfl rfl
@[simp] theorem IZ {ds : List D} : bF [.scr ds] h = .ok (.int ds.length) h := Eq.trans rfl rfl
noncomputable def ixK (ds : List D) (i : Int) (h : Hh) : R D := match atI ds i with
  | some d => .ok d h
  | none => .bad
@[simp] theorem Gn {ds : List D} {i : Int} : dIx (.tup ds) (.int i) h = ixK ds i h := Eq.trans rfl rfl
@[simp] theorem Jc {ds : List D} {i : Int} : dIx (.frl ds) (.int i) h = ixK ds i h := Eq.trans rfl rfl
@[simp] theorem Jd {ds : List D} {i : Int} : dIx (.scr ds) (.int i) h = ixK ds i h := Eq.trans rfl rfl
theorem mW {n : Nat} {ds : List D} {i : Int} (e : aH h n = some ds) : dIx (.ref n) (.int i) h = ixK ds i h := by
  have z : iT (.ref n) h = some ds := e
  delta dIx; rw [z]; rfl
theorem yW {ds : List D} {i : Int} {d : D} (e : atI ds i = some d) : ixK ds i h = .ok d h := by simp only [ixK, e]
theorem Ap {β : Type} {xs : List β} {j : Nat} {v : β} {i : Int} (h : xs[j]? = some v) (e : i = (j : Int)) : atI xs i = some v := by rw [e]; exact Dg h
theorem jI {ds : List D} {i : Int} {j : Nat} {d : D} (e : i = (j : Int)) (e2 : ds[j]? = some d) : ixK ds i h = .ok d h := yW (Ap e2 e)
noncomputable def gI (ns : List Int) (i : Nat) : Int := ns.getD i 0
theorem bD {ns : List Int} {j : Nat} (hj : j < ns.length) : gI ns j = ns[j] := by
  unfold gI; rw [List.getD_eq_getElem?_getD, List.getElem?_eq_getElem hj]; rfl
theorem fT {ns : List Int} {j : Nat} (hj : j < ns.length) : gI ns j ∈ ns := by rw [bD hj]; exact List.getElem_mem hj
theorem dE {ns : List Int} {i : Int} {j : Nat} (e : i = (j : Int)) (hj : j < ns.length) : ixK (ns.map D.int) i h = .ok (.int (gI ns j)) h := by
  refine jI e ?_
  rw [List.getElem?_map, List.getElem?_eq_getElem hj, bD hj]; rfl
@[simp] theorem Jm {d : D} {ds : List D} : ixK (d :: ds) 0 h = .ok d h := jI (j := 0) rfl rfl
@[simp] theorem Ju {d d1 : D} {ds : List D} : ixK (d :: d1 :: ds) 1 h = .ok d1 h := jI (j := 1) rfl rfl
theorem AY {β : Type} {xs : List β} {x : β} : atI (xs ++ [x]) (-1) = some x := by
  unfold atI ixN
  rw [if_neg (by decide), if_pos (by simp; omega)]
  have : ((-1 : Int) + ((xs ++ [x]).length : Nat)).toNat = xs.length := by simp; omega
  rw [this]; simp
@[simp] theorem yY {xs : List D} {x : D} : ixK (xs ++ [x]) (-1) h = .ok x h := yW AY
@[simp] theorem HK {ds : List D} {lo hi : Option Int} : ze nl (.tup ds) lo hi h = .ok (.tup (cutD ds lo hi)) h := Eq.trans rfl rfl
@[simp] theorem HE {ds : List D} {lo hi : Option Int} : ze nl (.scr ds) lo hi h = nl (cutD ds lo hi) h := Eq.trans rfl rfl
@[simp] theorem II {a b : List D} : bB nl (.tup a) (.tup b) h = if a.length + b.length <= 1000000 then .ok (.tup (a ++ b)) h else .bad := Eq.trans rfl rfl
@[simp] theorem Ih {a b : List D} : bB nl (.frl a) (.frl b) h = if a.length + b.length <= 1000000 then nl (a ++ b) h else .bad := Eq.trans rfl rfl
@[simp] theorem HV {a : List D} {k : Int} : f7 nl (.frl a) (.int k) h = if k.natAbs <= 1000000 /\ a.length * k.toNat <= 1000000 then nl (List.replicate k.toNat a).flatten h else .bad := Eq.trans rfl rfl
@[simp] theorem I0 {ds : List D} : bW [.frl ds] h = .ok (.tup ds) h := Eq.trans rfl rfl
@[simp] theorem Ah {ns : List Int} : nA [.frl (ns.map D.int)] h = .ok (.int ns.sum) h := by simp only [nA, iT, fX]
@[simp] theorem IC {b : Bool} : om (.bl b) h = .ok b h := Eq.trans rfl rfl
@[simp] theorem Jo {i j : Int} : dEq (.int i) (.int j) h = .ok (.bl (i == j)) h := Eq.trans rfl rfl
@[simp] theorem Jz {i j : Int} : dNe (.int i) (.int j) h = .ok (.bl (!(i == j))) h := Eq.trans rfl rfl
@[simp] theorem HR {i : Int} : tj "int" (.int i) h = .ok (.bl true) h := Eq.trans rfl rfl
@[simp] theorem IW {i : Int} : tj "bool" (.int i) h = .ok (.bl false) h := Eq.trans rfl rfl
@[simp] theorem IG {ds : List D} : tj "tuple" (.tup ds) h = .ok (.bl true) h := Eq.trans rfl rfl
@[simp] theorem GK {j : Int} : gf nl [.int j] h = if j.natAbs <= 1000000 then nl (bb 0 j.toNat) h else .bad := by
  by_cases z : j.natAbs <= 1000000
  · rw [if_pos z]; simp only [gf, yL, if_pos z]
  · rw [if_neg z]; simp only [gf, yL, if_neg z]
@[simp] theorem eZ {ds : List D} {t : Hh} : aH (h ++ .lst ds :: t) h.length = some ds := by
  unfold aH; rw [List.getElem?_append_right (Nat.le_refl _)]; simp
@[simp] theorem jL {o o' : O} {t : Hh} : (h ++ o :: t).set h.length o' = h ++ o' :: t := by
  rw [List.set_append_right _ _ (Nat.le_refl _)]; simp
theorem zY {n : Nat} {ds : List D} (e : aH h n = some ds) : isL (.ref n) h = true := by simp [isL, e]
theorem u7 {n : Nat} {ds : List D} {d : D} (e : aH h n = some ds) : du (.ref n) [d] h = if ds.length < 1000000 then .ok .non (h.set n (.lst (ds ++ [d]))) else .bad := by delta du; dsimp only; rw [e]
theorem D0 {n : Nat} {ds : List D} (e : aH h n = some ds) : bF [.ref n] h = .ok (.int ds.length) h := by
  unfold aH at e
  split at e
  · rename_i ds' q; cases e; delta bF; dsimp only; rw [q]
  · cases e
theorem A9 {n : Nat} {ds : List D} (e : aH h n = some ds) : bW [.ref n] h = .ok (.tup ds) h := by delta bW; dsimp only; rw [e]
theorem ip {n : Nat} {ds : List D} {i : Int} {j : Nat} {v : D} (e : aH h n = some ds) (e2 : ixN ds.length i = some j) : cF (.ref n) (.int i) v h = .ok () (h.set n (.lst (ds.set j v))) := by delta cF; dsimp only; rw [e]; dsimp only; rw [e2]
@[simp] theorem Hv {k : List Int} {t : Hh} : bF [.ref h.length] (h ++ .set k :: t) = .ok (.int k.length) (h ++ .set k :: t) := by
  have : (h ++ O.set k :: t)[h.length]? = some (.set k) := by rw [List.getElem?_append_right (Nat.le_refl _)]; simp
  delta bF; dsimp only; rw [this]
@[simp] theorem Fn {ns : List Int} : u4 [.tup (ns.map D.int)] h = if ns.length <= 4000 then .ok (.ref h.length) (h ++ [.set (unl ns)]) else .bad := by delta u4; dsimp only; rw [fX]
@[simp] theorem rE {ds : List D} {d : D} {t : Hh} : du (.ref h.length) [d] (h ++ .lst ds :: t) = if ds.length < 1000000 then .ok .non (h ++ .lst (ds ++ [d]) :: t) else .bad := by rw [u7 eZ, jL]
theorem k7 {n j : Nat} {i : Int} (e : i = (j : Int)) (hj : j < n) : ixN n i = some j := by
  subst e
  unfold ixN
  rw [if_pos (by omega), if_pos (by omega)]; simp
end
@[simp] theorem Ie {a : MA} : dY gq a env h = (a env h).bind gq := Eq.trans rfl rfl
@[simp] theorem Il {a : MA} : dY ni a env h = (a env h).bind ni := Eq.trans rfl rfl
@[simp] theorem HX {j : Int} : gq [.int j] h = if j.natAbs <= 1000000 then .ok (.snap (bb 0 j.toNat)) h else .bad := Eq.trans rfl rfl
@[simp] theorem HM {i j : Int} : ni [.int i, .int j] h = if i.natAbs <= 1000000 /\ j.natAbs <= 1000000 then .ok (.snap (bb i (j - i).toNat)) h else .bad := Eq.trans rfl rfl
@[simp] theorem JD {a : ME} : dH a env h = (a env h).bind zu := Eq.trans rfl rfl
@[simp] theorem HD {a : ME} : ie a env h = (a env h).bind uB := Eq.trans rfl rfl
@[simp] theorem Jr {ds : List D} : zu (.tup ds) h = .ok (.snap ds) h := Eq.trans rfl rfl
@[simp] theorem JC {ds : List D} : zu (.frl ds) h = .ok (.snap ds) h := Eq.trans rfl rfl
@[simp] theorem HY {a : MA} : xt a env h = (a env h).bind Co := Eq.trans rfl rfl
@[simp] theorem HA {ds es : List D} : Co [.tup ds, .tup es] h = .ok (.snap (kK ds es)) h := Eq.trans rfl rfl
@[simp] theorem Cc {nl : NL} {ns : List Int} : lA nl [.tup (ns.map D.int)] h = if ns.length < 64 then nl ((sortI ns).map D.int) h else .bad := by simp only [lA, iT, fX]
@[simp] theorem Hx {ds : List D} : uB (.tup ds) h = .ok (.snap (dN ds)) h := Eq.trans rfl rfl
@[simp] theorem Hs {ds : List D} : uB (.frl ds) h = .ok (.snap (dN ds)) h := Eq.trans rfl rfl
noncomputable def F1 (tg : D -> En -> Hh -> R En) (body : MS) (env : En) : Src -> Hh -> R Fl := fun sr h1 => match sr with
  | .snap ds => ef tg body ds env h1
  | .live n => lK (Src.live n).rdr tg body ((aH h1 n).getD []).length 0 env h1
  | .liveE n => lK (Src.liveE n).rdr tg body ((aH h1 n).getD []).length 0 env h1
@[simp] theorem Iy {tg : D -> En -> Hh -> R En} {body : MS} {ds : List D} : F1 tg body env (.snap ds) h = ef tg body ds env h := Eq.trans rfl rfl
@[simp] theorem Jx {mi : MI} {tg : D -> En -> Hh -> R En} {body : MS} : eN mi tg body env h = (mi env h).bind (F1 tg body env) := by
  unfold eN
  congr 1
noncomputable def Gb (nl : NL) (tt : MT) (te : ME) (ee : D -> En) : Src -> Hh -> R D := fun sr h1 => if sr.fuel h1 <= 1000000 then
  (match sr with
    | .snap ds => cO tt te ee ds h1
    | .live n => gm (Src.live n).rdr tt te ee ((aH h1 n).getD []).length 0 [] h1
    | .liveE n => gm (Src.liveE n).rdr tt te ee ((aH h1 n).getD []).length 0 [] h1).bind nl else .bad
@[simp] theorem HL {nl : NL} {mi : MI} {ix : List Nat} {tt : MT} {te : ME} : bP nl mi ix tt te env h = (mi env h).bind (Gb nl tt te (iX ix env)) := Eq.trans rfl rfl
@[simp] theorem Ht {nl : NL} {tt : MT} {te : ME} {ee : D -> En} {ds : List D} : Gb nl tt te ee (.snap ds) h = if ds.length <= 1000000 then (cO tt te ee ds h).bind nl else .bad := Eq.trans rfl rfl
@[simp] theorem FU {lo : Int} {n : Nat} : (bb lo n).length = n := by simp [bb]
@[simp] theorem FT {ds : List D} : (dN ds).length = ds.length := by simp [dN]
@[simp] theorem Jb {ix : List Nat} : iX ix env = fun d => some d :: ix.map fun i => (env[i]?).join := Eq.trans rfl rfl
@[simp] theorem Hf : tt1 env h = .ok true h := Eq.trans rfl rfl
@[simp] theorem Je {m : En -> Hh -> R β} {x y : D} {r : En} : unp m (some (.tup [x, y]) :: r) h = m (some x :: some y :: r) h := Eq.trans rfl rfl
@[simp] theorem Hw {f : Nat} {c : MT} {b : MS} : se f c b env h = f_ c b f env h := Eq.trans rfl rfl
noncomputable def G0 (tg : D -> En -> Hh -> R En) (body : MS) (ds : List D) : Fl -> Hh -> R Fl := fun fl h2 => match fl with
  | .nx e => ef tg body ds e h2
  | .ct e => ef tg body ds e h2
  | .bk e => .ok (.nx e) h2
  | .rt d => .ok (.rt d) h2
theorem xD {tg : D -> En -> Hh -> R En} {body : MS} : ef tg body [] env h = .ok (.nx env) h := rfl
theorem uF {tg : D -> En -> Hh -> R En} {body : MS} {d : D} {ds : List D} : ef tg body (d :: ds) env h = (tg d env h).bind fun e1 h1 => (body e1 h1).bind (G0 tg body ds) := rfl
@[simp] theorem Jh {tg : D -> En -> Hh -> R En} {body : MS} {ds : List D} {e : En} : G0 tg body ds (.nx e) h = ef tg body ds e h := Eq.trans rfl rfl
theorem l_ (ns : List Int) : dN (ns.map D.int) = (List.range ns.length).map fun (i : Nat) => D.tup [.int i, .int (gI ns i)] := by
  unfold dN
  rw [List.length_map]
  apply List.map_congr_left
  intro i hi
  have hi : i < ns.length := List.mem_range.mp hi
  rw [List.getD_eq_getElem?_getD, List.getElem?_map, List.getElem?_eq_getElem hi, bD hi]; rfl
theorem uS {σ X : Type} {tg : D -> En -> Hh -> R En} {body : MS} (E : σ -> En) (G : σ -> Hh) (enc : X -> D) (f : σ -> X -> σ) (I : List X -> σ -> Prop) (st : ∀ s x r, I (x :: r) s -> I r (f s x) /\ ((tg (enc x) (E s) (G s)).bind body = .ok (.nx (E (f s x))) (G (f s x)) \/ (tg (enc x) (E s) (G s)).bind body = .ok (.ct (E (f s x))) (G (f s x)))) :
    ∀ (xs : List X) (s : σ), I xs s -> ef tg body (xs.map enc) (E s) (G s) = .ok (.nx (E (xs.foldl f s))) (G (xs.foldl f s)) /\ I [] (xs.foldl f s)
  | [], s, i => ⟨rfl, i⟩
  | x :: xs, s, i => by
    obtain ⟨i1, e⟩ := st s x xs i
    obtain ⟨e2, i2⟩ := uS E G enc f I st xs (f s x) i1
    refine ⟨?_, i2⟩
    rw [List.map_cons, ef]
    rw [<- bV]
    rcases e with e | e <;> rw [e] <;> exact e2
theorem comp_map {X : Type} {tt : MT} {te : ME} {ee : D -> En} (enc : X -> D) (p : X -> Bool) (g : X -> D) : ∀ (xs : List X), (∀ x ∈ xs, tt (ee (enc x)) h = .ok (p x) h /\ (p x = true -> te (ee (enc x)) h = .ok (g x) h)) →
    cO tt te ee (xs.map enc) h = .ok ((xs.filter p).map g) h
  | [], _ => rfl
  | x :: xs, st => by
    obtain ⟨e1, e2⟩ := st x List.mem_cons_self
    have ih := comp_map enc p g xs fun y hy => st y (List.mem_cons_of_mem _ hy)
    rw [List.map_cons, cO, e1, cm]
    cases hp : p x with
    | false => rw [if_neg Bool.false_ne_true, ih, List.filter_cons_of_neg (by simp [hp])]
    | true => rw [if_pos rfl, e2 hp, cm, ih, cm, List.filter_cons_of_pos hp, List.map_cons]
theorem A3 {X : Type} {te : ME} {ee : D -> En} (enc : X -> D) (g : X -> D) (xs : List X) (st : ∀ x ∈ xs, te (ee (enc x)) h = .ok (g x) h) : cO tt1 te ee (xs.map enc) h = .ok (xs.map g) h := by
  have := comp_map (tt := tt1) (ee := ee) (h := h) enc (fun _ => true) g xs fun x hx => ⟨rfl, fun _ => st x hx⟩
  rw [List.filter_eq_self.mpr fun _ _ => rfl] at this
  exact this
theorem qR (n : Nat) : bb 0 n = (List.range n).map fun (i : Nat) => D.int i := by
  unfold bb
  apply List.map_congr_left
  intro i _
  rw [Int.zero_add]
theorem pf {n : Nat} {tt : MT} {te : ME} {ee : D -> En} (p : Nat -> Bool) (g : Nat -> D) (st : ∀ i, i < n -> tt (ee (.int (i : Nat))) h = .ok (p i) h /\ (p i = true -> te (ee (.int (i : Nat))) h = .ok (g i) h)) :
    cO tt te ee (bb 0 n) h = .ok (((List.range n).filter p).map g) h := by
  rw [qR, comp_map (fun (i : Nat) => D.int i) p g (List.range n) fun i hi => st i (List.mem_range.mp hi)]
theorem eU {n : Nat} {te : ME} {ee : D -> En} (g : Nat -> D) (st : ∀ i, i < n -> te (ee (.int (i : Nat))) h = .ok (g i) h) :
    cO tt1 te ee (bb 0 n) h = .ok ((List.range n).map g) h := by
  rw [qR, A3 (fun (i : Nat) => D.int i) g (List.range n) fun i hi => st i (List.mem_range.mp hi)]
theorem wQ {σ : Type} {tg : D -> En -> Hh -> R En} {body : MS} (enc : Nat -> D) (n : Nat) (E : σ -> En) (G : σ -> Hh) (f : σ -> Nat -> σ) (I : Nat -> σ -> Prop) (s : σ) (i0 : I 0 s)
    (st : ∀ i s, i < n -> I i s -> I (i + 1) (f s i) /\ ((tg (enc i) (E s) (G s)).bind body = .ok (.nx (E (f s i))) (G (f s i)) \/ (tg (enc i) (E s) (G s)).bind body = .ok (.ct (E (f s i))) (G (f s i)))) :
    ef tg body ((List.range n).map enc) (E s) (G s) = .ok (.nx (E ((List.range n).foldl f s))) (G ((List.range n).foldl f s)) /\ I n ((List.range n).foldl f s) := by
  have key : ∀ (k : Nat) (xs : List Nat) (s : σ), (∀ j x, xs[j]? = some x -> x = k + j /\ x < n) -> I k s -> ef tg body (xs.map enc) (E s) (G s) = .ok (.nx (E (xs.foldl f s))) (G (xs.foldl f s)) /\ I (k + xs.length) (xs.foldl f s) := by
    intro k xs
    induction xs generalizing k with
    | nil => intro s _ i; exact ⟨rfl, i⟩
    | cons x xs ih =>
      intro s hx i
      obtain ⟨h1, h2⟩ := hx 0 x rfl
      have h1 : x = k := by omega
      subst h1
      obtain ⟨i1, e⟩ := st x s h2 i
      obtain ⟨e2, i2⟩ := ih (x + 1) (f s x) (fun j y hj => by have := hx (j + 1) y hj; omega) i1
      refine ⟨?_, by rw [List.length_cons, List.foldl_cons]; rw [show x + (xs.length + 1) = x + 1 + xs.length by omega]; exact i2⟩
      rw [List.map_cons, ef, <- bV]
      rcases e with e | e <;> rw [e] <;> exact e2
  have hr : ∀ j x, (List.range n)[j]? = some x -> x = 0 + j /\ x < n := fun j x hj => by
    have hl : j < n := by
      by_cases hl : j < n
      · exact hl
      · rw [List.getElem?_eq_none (by simpa using hl)] at hj; cases hj
    rw [List.getElem?_range hl] at hj
    cases hj
    omega
  have := key 0 (List.range n) s hr i0
  rw [List.length_range, Nat.zero_add] at this
  exact this
theorem rq {σ X : Type} {te : ME} {ee : D -> En} (G : σ -> Hh) (enc : X -> D) (f : σ -> X -> σ) (g : σ -> X -> D) (I : List X -> σ -> Prop) (st : ∀ s x r, I (x :: r) s -> I r (f s x) /\ te (ee (enc x)) (G s) = .ok (g s x) (G (f s x))) :
    ∀ (xs : List X) (s : σ), I xs s -> ∃ ys, cO tt1 te ee (xs.map enc) (G s) = .ok ys (G (xs.foldl f s)) /\ I [] (xs.foldl f s) /\ ys = (xs.foldl (fun (a : σ × List D) x => (f a.1 x, a.2 ++ [g a.1 x])) (s, [])).2
  | [], s, i => ⟨[], rfl, i, rfl⟩
  | x :: xs, s, i => by
    obtain ⟨i1, e⟩ := st s x xs i
    obtain ⟨ys, e2, i2, e3⟩ := rq G enc f g I st xs (f s x) i1
    refine ⟨g s x :: ys, ?_, i2, ?_⟩
    · rw [List.map_cons, cO, Hf, cm, if_pos rfl, e, cm, e2]; rfl
    · rw [List.foldl_cons, e3]
      have key : ∀ (xs : List X) (s : σ) (a b : List D), (xs.foldl (fun (a : σ × List D) x => (f a.1 x, a.2 ++ [g a.1 x])) (s, a ++ b)).2 = a ++ (xs.foldl (fun (a : σ × List D) x => (f a.1 x, a.2 ++ [g a.1 x])) (s, b)).2 := by
        intro xs
        induction xs with
        | nil => intro s a b; rfl
        | cons x xs ih => intro s a b; rw [List.foldl_cons, List.foldl_cons, List.append_assoc]; exact ih _ _ _
      have := key xs (f s x) [g s x] []
      simpa using this.symm
theorem vC {c : MT} {b : MS} (n : Nat) (E : Nat -> En) (G : Nat -> Hh) (hc : ∀ i, i < n -> c (E i) (G i) = .ok true (G i)) (hb : ∀ i, i < n -> b (E i) (G i) = .ok (.nx (E (i + 1))) (G (i + 1))) (he : c (E n) (G n) = .ok false (G n)) :
    ∀ (f : Nat), n < f -> f_ c b f (E 0) (G 0) = .ok (.nx (E n)) (G n) := by
  have key : ∀ (k i f : Nat), i + k = n -> k < f -> f_ c b f (E i) (G i) = .ok (.nx (E n)) (G n) := by
    intro k
    induction k with
    | zero =>
      intro i f hi hf
      obtain ⟨f, rfl⟩ : ∃ g, f = g + 1 := ⟨f - 1, by omega⟩
      have : i = n := by omega
      subst this
      rw [f_, he]; rfl
    | succ k ih =>
      intro i f hi hf
      obtain ⟨f, rfl⟩ : ∃ g, f = g + 1 := ⟨f - 1, by omega⟩
      rw [f_, hc i (by omega), cm, if_pos rfl, hb i (by omega), cm]
      exact ih (i + 1) f (by omega) (by omega)
  exact fun f hf => key n 0 f (by omega) hf
noncomputable def Wf (h : Hh) : Prop := h.all (uW h.length) = true
mutual
theorem yH {j k : Nat} (h : j <= k) : ∀ (d : D), dD j d = true -> dD k d = true
  | .non, _ => rfl | .bl _, _ => rfl | .int _, _ => rfl | .str _, _ => rfl | .fn _, _ => rfl | .edic, _ => rfl | .exc _ _, _ => rfl
  | .ref n, e => by simp only [dD, decide_eq_true_eq] at e ⊢; omega
  | .tup ds, e => by simp only [dD] at e ⊢; exact dZ h ds e
  | .frl ds, e => by simp only [dD] at e ⊢; exact dZ h ds e
  | .scr ds, e => by simp only [dD] at e ⊢; exact dZ h ds e
theorem dZ {j k : Nat} (h : j <= k) : ∀ (ds : List D), bU j ds = true -> bU k ds = true
  | [], _ => rfl
  | d :: ds, e => by
    simp only [bU, Bool.and_eq_true] at e ⊢
    exact ⟨yH h d e.1, dZ h ds e.2⟩
end
theorem xU {j k : Nat} (h : j <= k) (o : O) (e : uW j o = true) : uW k o = true := by
  cases o with
  | lst ds => exact dZ h ds e
  | set n => rfl
  | dic kvs => exact dZ h _ e
  | dit kvs => exact dZ h _ e
theorem rC {k : Nat} : ∀ {ds : List D}, (∀ d ∈ ds, dD k d = true) -> bU k ds = true
  | [], _ => rfl
  | d :: ds, h => by simp only [bU, Bool.and_eq_true]; exact ⟨h d List.mem_cons_self, rC fun e he => h e (List.mem_cons_of_mem _ he)⟩
@[simp] theorem jH {X : Type} {k : Nat} {f : X -> D} {xs : List X} (h : ∀ x, dD k (f x) = true) : bU k (xs.map f) = true := rC fun d hd => by
  obtain ⟨x, _, rfl⟩ := List.mem_map.mp hd; exact h x
@[simp] theorem Fq {k : Nat} {ns : List Int} : bU k (ns.map D.int) = true := jH fun _ => rfl
theorem Wf.nil : Wf [] := rfl
theorem Wf.app {h : Hh} {o : O} (w : Wf h) (l : uW (h.length + 1) o = true) : Wf (h ++ [o]) := by
  unfold Wf at w ⊢
  rw [List.all_append, List.length_append, List.length_singleton]
  simp only [List.all_cons, List.all_nil, Bool.and_true, Bool.and_eq_true]
  refine ⟨?_, l⟩
  rw [List.all_eq_true] at w ⊢
  exact fun x hx => xU (Nat.le_succ _) x (w x hx)
noncomputable def deep : Nat -> D -> Bool
  | 0, _ => false
  | f + 1, d => match d with
    | .ref _ => false
    | .scr _ => false
    | .tup ds => ds.all (deep f)
    | .frl ds => ds.all (deep f)
    | _ => true
theorem nS {f : D -> Option D} : ∀ {ds : List D}, (∀ d ∈ ds, f d = some d) -> l8 f ds = some ds
  | [], _ => rfl
  | d :: ds, h => by simp only [l8, h d List.mem_cons_self, nS fun e he => h e (List.mem_cons_of_mem _ he)]
theorem jN {k : Nat} {h : Hh} : ∀ (f : Nat) (d : D), deep f d = true -> gy k h f d = some d
  | 0, _, e => by cases e
  | f + 1, d, e => by
    unfold deep at e
    unfold gy
    cases d with
    | ref n => cases e
    | scr n => cases e
    | tup ds => simp only [List.all_eq_true] at e; show Option.map D.tup (l8 (gy k h f) ds) = _; rw [nS (f := gy k h f) fun d hd => jN f d (e d hd)]; rfl
    | frl ds => simp only [List.all_eq_true] at e; show Option.map D.frl (l8 (gy k h f) ds) = _; rw [nS (f := gy k h f) fun d hd => jN f d (e d hd)]; rfl
    | _ => rfl
theorem cX {d : D} {t : Hh} (w : Wf h) (e : deep 8 d = true) : cf h d (h ++ t) = .ok d h := by
  unfold cf
  rw [List.take_left' rfl, if_pos (show h.all (uW h.length) = true from w), jN 8 d e]
theorem mz {ds : List D} {t : Hh} (w : Wf h) (e : ds.all (deep 7) = true) : cf h (.ref h.length) (h ++ .lst ds :: t) = .ok (.frl ds) h := by
  unfold cf
  rw [List.take_left' rfl, if_pos (show h.all (uW h.length) = true from w)]
  have : gy h.length (h ++ .lst ds :: t) 8 (.ref h.length) = some (.frl ds) := by
    unfold gy
    simp only [Nat.lt_irrefl, if_false, eZ]
    rw [List.all_eq_true] at e
    rw [nS fun d hd => jN 7 d (e d hd)]; rfl
  rw [this]
@[simp] theorem GO {f : Nat} {i : Int} : deep (f + 1) (.int i) = true := rfl
@[simp] theorem Hy {f : Nat} {i : Bool} : deep (f + 1) (.bl i) = true := rfl
@[simp] theorem G2 {f : Nat} {i : Str} : deep (f + 1) (.str i) = true := rfl
@[simp] theorem Gw {f : Nat} : deep (f + 1) .non = true := rfl
@[simp] theorem FR {f : Nat} : deep (f + 1) .edic = true := rfl
@[simp] theorem Gq {f : Nat} {ds : List D} : deep (f + 1) (.tup ds) = ds.all (deep f) := rfl
@[simp] theorem GH {f : Nat} {ds : List D} : deep (f + 1) (.frl ds) = ds.all (deep f) := rfl
end
noncomputable def Ok {β : Type} (r : R β) (Q : β -> Hh -> Prop) : Prop := ∃ b h, r = .ok b h /\ Q b h
section
variable {β γ : Type} {Q : β -> Hh -> Prop} {h h1 h2 : Hh}
theorem Ok.mono {r : R β} {Q' : β -> Hh -> Prop} (o : Ok r Q) (q : ∀ b h, Q b h -> Q' b h) : Ok r Q' := let ⟨b, h, e, z⟩ := o; ⟨b, h, e, q b h z⟩
end
theorem sN {X : Type} {tg : D -> En -> Hh -> R En} {body : MS} {QS : Fl -> Hh -> Prop} (enc : X -> D) (I : En -> Hh -> Prop) :
    ∀ (xs : List X) (env : En) (h : Hh), I env h -> (∀ x e h, x ∈ xs -> I e h -> Ok ((tg (enc x) e h).bind body) fun fl h2 => match fl with
      | .nx e => I e h2
      | .ct e => I e h2
      | .bk e => QS (.nx e) h2
      | .rt d => QS (.rt d) h2) -> (∀ e h, I e h -> QS (.nx e) h) -> Ok (ef tg body (xs.map enc) env h) QS
  | [], env, h, i, _, q => ⟨_, _, rfl, q _ _ i⟩
  | x :: xs, env, h, i, st, q => by
    obtain ⟨fl, h2, e, z⟩ := st x env h List.mem_cons_self i
    rw [List.map_cons, ef, <- bV, e, cm]
    cases fl with
    | nx e' => exact sN enc I xs e' h2 z (fun y e h hy => st y e h (List.mem_cons_of_mem _ hy)) q
    | ct e' => exact sN enc I xs e' h2 z (fun y e h hy => st y e h (List.mem_cons_of_mem _ hy)) q
    | bk e => exact ⟨_, _, rfl, z⟩
    | rt d => exact ⟨_, _, rfl, z⟩
end L2.FE
namespace L2.FE
open PySem PySem.Spec PyProof.Rows
noncomputable def DM (h : Hh) (n : Nat) : Option (List (Key × D)) := match h[n]? with
  | some (.dic kvs) => some kvs
  | _ => none
noncomputable def AN : List (Key × D) -> Key -> Option D
  | [], _ => none
  | p :: r, k => if p.1 = k then some p.2 else AN r k
noncomputable abbrev PD (K : PySem.W.Frag) (g : GG) (α : List Addr) (H : Hp) : List (Key × D) -> List (Key × V) -> Prop := Paired (fun (a : Key × D) (b : Key × V) => a.1 = b.1 /\ aU K g α H a.2 b.2)
section
variable {K : PySem.W.Frag} {g : GG} {α : List Addr} {H : Hp} {h : Hh}
theorem bh.dic {n : Nat} {p : Addr} {kvs : List (Key × D)} (r : bh K g α H h) (e : DM h n = some kvs) (hp : α[n]? = some p) : ∃ kws, H p = some (.dK kws) /\ PD K g α H kvs kws := by
  unfold DM at e
  cases eo : h[n]? with
  | none => rw [eo] at e; cases e
  | some o =>
    rw [eo] at e
    cases o with
    | dic k => cases e; exact r.here n p _ hp eo
    | _ => cases e
theorem PD.val (k : Key) : ∀ {kvs : List (Key × D)} {kws : List (Key × V)}, PD K g α H kvs kws -> (AN kvs k = none /\ sd kws k = none) \/ ∃ d v, AN kvs k = some d /\ sd kws k = some v /\ aU K g α H d v
  | _, _, .nil => .inl ⟨rfl, rfl⟩
  | p :: r, q :: t, .cons c rr => by
    by_cases e : p.1 = k
    · exact .inr ⟨p.2, q.2, if_pos e, uP (c.1 ▸ e), c.2⟩
    · rw [show AN (p :: r) k = AN r k from if_neg e, ua (c.1 ▸ e)]
      exact PD.val k rr
theorem PD.ext {α' : List Addr} {H' : Hp} {kvs : List (Key × D)} {kws : List (Key × V)} (e : Ext K α H α' H') (r : PD K g α H kvs kws) : PD K g α' H' kvs kws := Paired.G3 e.toEx0 r
theorem aX.dic {Q : VK} {kvs : List (Key × D)} {kws : List (Key × V)} {p : Addr} (w : aX K g α H Q (.ref h.length) (h ++ [.dic kvs])) (r : bh K g α H h) (rs : PD K g α H kvs kws) (hp : H p = none) : Q (.ref p) (upd H p (.dK kws)) := by
  have x := Ext.push (K := K) (α := α) (o := .dK kws) hp
  exact w _ _ _ x (r.push hp ⟨_, aY, rs.ext x⟩) (.ref (by rw [<- r.len]; simp))
end
section
variable {X : Cx} {g : GG} {ε : EE} {o i e f : Expr} {mo mi me mf : ME} {pos : Pos}
noncomputable def jc (ns : List Int) : Int := ns.getD (argBest (fun i j => decide (ns.getD i 0 > ns.getD j 0)) (ns.length - 1)) 0
theorem x_ (hc : X.calm = true) : bO X (.builtin "max") (fun vs H Q => ∃ (p : Addr) (ns : List Int), vs = [.ref p] /\ SqL X.K H p (ns.map V.int) /\ 0 < ns.length /\ Q (.int (jc ns)) H) := by
  intro pins s σ H xs us Q I r h
  obtain ⟨p, ns, rfl, hq, hpos, q⟩ := h
  obtain ⟨u, rfl, rx⟩ := vals1 r
  cases rx
  have hh : X.A.in1.handled = none := I.ok.hd hc
  obtain ⟨its, rv, pl, hz⟩ := I.list hq
  have hl : its.toArray.size = ns.length := by rw [List.size_toArray, <- rv.length, List.length_map]
  have val : ∀ i v, its.toArray[i]? = some v -> ∃ t : Tok, v = Value.int (ns.getD i 0) t := fun i v e => by
    obtain ⟨x, hx, rxv⟩ := rv.get' (show its[i]? = some v by simpa using e)
    rw [List.getElem?_map] at hx
    cases en : ns[i]? with
    | none => rw [en] at hx; cases hx
    | some z =>
      rw [en] at hx
      cases hx
      obtain ⟨t, e⟩ := rxv
      exact ⟨t, by rw [List.getD_eq_getElem?_getD, en]; exact e⟩
  have plt : p < s.heap.objs.size := by obtain ⟨o, e, _⟩ := pl.isList; exact Heap.lt_size e
  have hne : p ≠ s.heap.objs.size := Nat.ne_of_lt plt
  refine call_max_walk (wpAny_pyIter_list pl.isList ?_)
  refine ⟨s.heap.objs.size, _, _, its.toArray.size, _, _, _, rfl, Walks.list (prog := X.prog) (w := X.w) hh s.heap.objs.size p hne its.toArray, ⟨⟨_, Heap.get?_push_size _ rfl, rfl, rfl⟩, ?_⟩, fun b hb => ?_, by omega, CmpOf.ints_gt (fun i => ns.getD i 0) val, fun v h' tk hv hk => ?_⟩
  · exact pl.isList.at fun o e => Heap.get?_push_of_some _ e
  · simp at hb
    rcases hb with rfl | rfl
    · exact Heap.lt_size (Heap.get?_push_size _ rfl)
    · exact Nat.lt_trans plt (Heap.lt_size (Heap.get?_push_size _ rfl))
  · obtain ⟨t, rfl⟩ := val _ _ hv
    refine ⟨.int (jc ns), H, ?_, ⟨t, by rw [hl]; rfl⟩, q⟩
    exact I.kept (h' := h') (t' := tk) fun b u e => hk b u (by simp; exact Nat.ne_of_lt (Heap.lt_size e)) (Heap.get?_push_of_some _ e)
noncomputable def xf : List D -> Hh -> R D := fun ds h => match ds with
  | [d] => match j8 d h with
    | some ds => match intsOf ds with
      | some ns => if 0 < ns.length then .ok (.int (jc ns)) h else .bad
      | none => .bad
    | none => .bad
  | _ => .bad
theorem CI {K : PySem.W.Frag} : lQ K g ε xf (fun vs H Q => ∃ (p : Addr) (ns : List Int), vs = [.ref p] /\ SqL K H p (ns.map V.int) /\ 0 < ns.length /\ Q (.int (jc ns)) H) := by
  intro α H h a x Q r ra w
  obtain ⟨d, v, rfl, rfl, rd⟩ := kg (f := xf) (fun d _ _ _ => rfl) (fun _ => rfl) ra w
  unfold xf at w
  simp only at w
  cases e : j8 d h with
  | none => rw [e] at w; exact w.elim
  | some ds =>
    rw [e] at w
    simp only at w
    cases e2 : intsOf ds with
    | none => rw [e2] at w; exact w.elim
    | some ns =>
      rw [e2] at w
      obtain ⟨hl, w⟩ := WQ.e_ w
      obtain ⟨p, vs, rfl, hv, rs⟩ := tf r rd e
      have e3 := dy e2
      subst e3
      rw [rs.qT] at hv
      exact ⟨p, ns, rfl, .inl hv, hl, aX.now w r (.int _)⟩
end
end L2.FE
namespace L2
open PySem PySem.Spec PyProof.Rows
structure Fly (B : Heap) (l : List Env) (e : Addr) (C : Value) (dc : Option Addr) (fl : Value) (h : Heap) : Prop where
  stays : B.StaysIn h
  new : B.get? e = none
  fr : h.FunFrames B l
  obj : ∃ oe ws T oT ts, h.get? e = some oe /\ oe.cls = C /\ oe.dict = dc /\ oe.data = .fields ws /\ ws[1]? = some (.ref T) /\ B.get? T = none /\ T ≠ e /\ h.get? T = some oT /\ oT.data = .fields ts /\ ts[3]? = some fl
noncomputable def Arr (B : Heap) (l : List Env) (e : Addr) (C : Value) (dc : Option Addr) (h : Heap) : Prop :=
  (B.StaysIn h /\ B.get? e = none /\ h.FunFrames B l /\ ∃ oe ws, h.get? e = some oe /\ oe.cls = C /\ oe.dict = dc /\ oe.data = .fields ws /\ ws[1]? = some .none) \/ Fly B l e C dc .none h
theorem Arr.stays {B : Heap} {l : List Env} {e : Addr} {C : Value} {dc : Option Addr} {h : Heap} (x : Arr B l e C dc h) : B.StaysIn h := x.elim (·.1) (·.stays)
theorem Arr.new {B : Heap} {l : List Env} {e : Addr} {C : Value} {dc : Option Addr} {h : Heap} (x : Arr B l e C dc h) : B.get? e = none := x.elim (·.2.1) (·.new)
theorem Arr.fr {B : Heap} {l : List Env} {e : Addr} {C : Value} {dc : Option Addr} {h : Heap} (x : Arr B l e C dc h) : h.FunFrames B l := x.elim (·.2.2.1) (·.fr)
end L2
namespace L2.FE
open PySem PySem.Spec PyProof.Rows
noncomputable def noR {β : Type} : R β -> R β
  | .ok b h => .ok b h
  | _ => .bad
@[simp] theorem Iq {β : Type} (b : β) (h : Hh) : noR (.ok b h) = .ok b h := rfl
noncomputable def up {β : Type} (m : En -> Hh -> R β) : En -> Hh -> R β := fun env h => noR (m env h)
theorem EA {K : PySem.W.Frag} {g : GG} {ε : EE} {α : List Addr} {H : Hp} {β : Type} {r : R β} {k : β -> Hh -> Prop} (w : WQ K g ε α H (noR r) k) : WQ K g E00 α H r k := by
  cases r with
  | ok b h => exact w
  | err x h => exact w.elim
  | bad => exact w.elim
theorem us0 {P : List Value -> Prop} {us : List Value} (hl : us.length = 0) (h : P []) : P us := by cases us with | nil => exact h | cons _ _ => cases hl
theorem us1 {P : List Value -> Prop} {us : List Value} (hl : us.length = 1) (h : ∀ a, P [a]) : P us := by cases us with | nil => cases hl | cons a us => exact us0 (P := fun us => P (a :: us)) (Nat.succ.inj hl) (h a)
theorem us2 {P : List Value -> Prop} {us : List Value} (hl : us.length = 2) (h : ∀ a b, P [a, b]) : P us := by cases us with | nil => cases hl | cons a us => exact us1 (P := fun us => P (a :: us)) (Nat.succ.inj hl) (h a)
theorem us3 {P : List Value -> Prop} {us : List Value} (hl : us.length = 3) (h : ∀ a b c, P [a, b, c]) : P us := by cases us with | nil => cases hl | cons a us => exact us2 (P := fun us => P (a :: us)) (Nat.succ.inj hl) (h a)
theorem us4 {P : List Value -> Prop} {us : List Value} (hl : us.length = 4) (h : ∀ a b c d, P [a, b, c, d]) : P us := by cases us with | nil => cases hl | cons a us => exact us3 (P := fun us => P (a :: us)) (Nat.succ.inj hl) (h a)
theorem iW {fd : FuncData} {ps : List Str} {us : List Value} (hl : us.length = 1) (h : ∀ a : Value, bindArgs fd ⟨[a], []⟩ = pure (ps.zip [a])) : bindArgs fd ⟨us, []⟩ = pure (ps.zip us) := us1 (P := fun us => bindArgs fd ⟨us, []⟩ = pure (ps.zip us)) hl h
theorem p8 {fd : FuncData} {ps : List Str} {us : List Value} (hl : us.length = 2) (h : ∀ a b : Value, bindArgs fd ⟨[a, b], []⟩ = pure (ps.zip [a, b])) : bindArgs fd ⟨us, []⟩ = pure (ps.zip us) := us2 (P := fun us => bindArgs fd ⟨us, []⟩ = pure (ps.zip us)) hl h
theorem vV {fd : FuncData} {ps : List Str} {us : List Value} (hl : us.length = 3) (h : ∀ a b c : Value, bindArgs fd ⟨[a, b, c], []⟩ = pure (ps.zip [a, b, c])) : bindArgs fd ⟨us, []⟩ = pure (ps.zip us) := us3 (P := fun us => bindArgs fd ⟨us, []⟩ = pure (ps.zip us)) hl h
theorem IH {fd : FuncData} {ps : List Str} {us : List Value} (hl : us.length = 4) (h : ∀ a b c d : Value, bindArgs fd ⟨[a, b, c, d], []⟩ = pure (ps.zip [a, b, c, d])) : bindArgs fd ⟨us, []⟩ = pure (ps.zip us) := us4 (P := fun us => bindArgs fd ⟨us, []⟩ = pure (ps.zip us)) hl h
section
variable {X : Cx} {g : GG} {ε : EE} {K : PySem.W.Frag}
noncomputable def F9 (sc o : Scope) : Scope := { sc with names := sc.names.map fun (n, k) => if (k == .free && o.kind == .function && o.names.lookup n == some .cell) then (n, .cell) else (n, k) }
end
end L2.FE
namespace L2.Srt
open PySem PySem.W PyProof.Rows
section
variable {n : Nat} {key : Nat -> Int}
structure Pm (n : Nat) (p : Array Nat) : Prop where
  size : p.size = n
  perm : p.Perm (List.range n).toArray
theorem Pm.lt {p : Array Nat} (h : Pm n p) {i : Nat} (hi : i < n) : p.getD i 0 < n := by
  have hi' : i < p.size := by rw [h.size]; exact hi
  have e : p.getD i 0 = p[i] := by simp [Array.getD, hi']
  rw [e]
  have := h.perm.mem_iff.mp (Array.getElem_mem hi')
  simpa using this
theorem Pm.inj {p : Array Nat} (h : Pm n p) {i j : Nat} (hi : i < n) (hj : j < n) (e : p.getD i 0 = p.getD j 0) : i = j := by
  have nd : p.toList.Nodup := (h.perm.toList.nodup_iff).mpr (by simpa using List.nodup_range)
  have hi' : i < p.toList.length := by simp [h.size, hi]
  have hj' : j < p.toList.length := by simp [h.size, hj]
  have a : p.getD i 0 = p.toList[i] := by simp [Array.getD, h.size, hi]
  have b : p.getD j 0 = p.toList[j] := by simp [Array.getD, h.size, hj]
  rw [a, b] at e
  exact (List.getElem_inj nd).mp e
noncomputable def Dn (key : Nat -> Int) (p : Array Nat) (m : Nat) : Prop := ∀ i j, i < j -> j < m -> key (p.getD j 0) < key (p.getD i 0)
variable (inj : ∀ i j, i < n -> j < n -> key i = key j -> i = j)
include inj
omit inj in
omit inj in
omit inj in
omit inj in
omit inj in
omit inj in
end
end L2.Srt
namespace L2.Srt
open PySem PySem.W PyProof.Rows PySem.Calls
section
variable {prog : Program} {w : World} {A : Around} {E : Value -> Shared -> Prop} {s : Shared} {vs : List Value}
inductive Prs (h : Heap) : List Value -> List (Int × Int) -> Prop
  | nil : Prs h [] []
  | cons {a : Addr} {o : Obj} {k : Nat} {t u : Tok} {x y : Int} {vs : List Value} {ps : List (Int × Int)} : h.get? a = some o -> o.cls = .type "tuple" -> o.data = .seq #[.int x t, .int y u] k -> Prs h vs ps -> Prs h (.ref a :: vs) ((x, y) :: ps)
theorem Prs.len {h : Heap} {vs : List Value} {ps : List (Int × Int)} (r : Prs h vs ps) : vs.length = ps.length := by
  induction r with
  | nil => rfl
  | cons _ _ _ _ ih => simp [ih]
end
end L2.Srt
namespace L2
open PySem PySem.Spec PyProof.Rows L2.Srt
inductive PrV (K : PySem.W.Frag) (H : Hp) : List V -> List (Int × Int) -> Prop
  | nil : PrV K H [] []
  | cons {a : Addr} {x y : Int} {xs : List V} {ps : List (Int × Int)} : SqT K H a [.int x, .int y] -> PrV K H xs ps -> PrV K H (.ref a :: xs) ((x, y) :: ps)
section
variable {X : Cx}
theorem PrV.len {K : PySem.W.Frag} {H : Hp} {xs : List V} {ps : List (Int × Int)} (r : PrV K H xs ps) : xs.length = ps.length := by
  induction r with
  | nil => rfl
  | cons _ _ ih => simp [ih]
end
end L2
namespace L2
open PySem PySem.Spec PyProof.Rows
section
variable {X : Cx}
theorem isInt_self (i : Int) (t : Tok) : Value.isInt i (Value.int i t) = true := by simp [Value.isInt]
theorem yp : bO X (.type "set") (fun vs H Q => vs = [] /\ ∀ l, H l = none -> Q (.ref l) (upd H l (.set (fun _ => false) 0))) := by
  intro pins s σ H xs us Q I r h
  obtain ⟨rfl, q⟩ := h
  cases r
  refine call_set_0 fun led => ?_
  exact ⟨.ref s.heap.objs.size, _, I.laid (t' := s.toks) (fun b o e => Heap.get?_push_of_some _ e) (Nat.le_refl _) (show cK X.prog X.w _ _ _ (.set _ _) from (setObjOf_fresh (knd := intKind X.prog X.w) led).setOf (Heap.get?_push_size _ rfl) (by unfold scanBound; omega)), rfl, q _ (I.hok.fresh (Nat.le_refl _))⟩
noncomputable abbrev GC (neg : Bool) : R2 := fun x y H Q => ∃ i p S n, x = .int i /\ y = .ref p /\ H p = some (.set S n) /\ Q (.bl (if neg then !S i else S i)) H
theorem yK : OpR X (compareOp .NotIn) (GC true) := by
  intro pins s σ H x y v u Q I rx ry ⟨i, p, S, n, e1, e2, hp, q⟩
  subst e1 e2
  obtain ⟨t, rfl⟩ := rx
  cases ry
  exact wpAny_notInSet_of (knd := intKind X.prog X.w) (k := i) (key := .int i t) (isInt_self i t) rfl (I.hok p _ hp) ⟨.bl (!S i), H, I.tok _, rfl, q⟩
noncomputable def DX : V -> List V -> Hp -> VK -> Prop := fun x vs H Q => ∃ p S n i, x = .ref p /\ vs = [.int i] /\ H p = some (.set S n) /\ n + 1 < scanBound /\ Q .non (upd H p (.set (fun k' => S k' || decide (k' = i)) (if S i then n else n + 1)))
theorem FD : MtM X "set.add" DX := by
  intro pins s σ H x vs v us Q I rx rv h
  obtain ⟨p, S, n, i, rfl, rfl, hp, hb, q⟩ := h
  cases rx
  obtain ⟨u, rfl, t, rfl⟩ := rv.one
  refine call_set_add (knd := intKind X.prog X.w) (k := i) (key := .int i t) (isInt_self i t) rfl (I.hok p _ hp) hb fun h' hs hS => ⟨.non, _, BB (ob := .set (fun k' => S k' || decide (k' = i)) (if S i then n else n + 1)) I (by rw [hp]; exact True.intro) hs ?_ hS, rfl, q⟩
  obtain ⟨o, _, _, _, e, _⟩ := hS
  exact ⟨o, e⟩
end
end L2
namespace L2.FE
open PySem PySem.Spec PyProof.Rows
noncomputable def setOf (h : Hh) (n : Nat) : Option (List Int) := match h[n]? with
  | some (.set ns) => some ns
  | _ => none
noncomputable def gU (ns : List Int) (i : Int) : List Int := if ns.any (· == i) = true then ns else ns ++ [i]
noncomputable def p9 : List D -> Hh -> R D := fun ds h => match ds with
  | [] => .ok (.ref h.length) (h ++ [.set []])
  | _ => .bad
noncomputable def wm (neg : Bool) : D -> D -> Hh -> R D := fun a b h => match a, b with
  | .int i, .ref n => match setOf h n with
    | some ns => .ok (.bl (if neg then !ns.any (· == i) else ns.any (· == i))) h
    | none => .bad
  | _, _ => .bad
noncomputable def lg : D -> List D -> Hh -> R D := fun o ds h => match o, ds with
  | .ref n, [.int i] => match setOf h n with
    | some ns => if ns.length < 4000 then .ok .non (h.set n (.set (gU ns i))) else .bad
    | none => .bad
  | _, _ => .bad
noncomputable def isS (d : D) (h : Hh) : Bool := match d with
  | .ref n => (setOf h n).isSome
  | _ => false
noncomputable def pJ (f : D -> List D -> Hh -> R D) (o : ME) (a : MA) : ME := fun env h => (o env h).bind fun x h1 => if isS x h1 = true then (a env h1).bind fun xs h2 => f x xs h2 else .bad
section
variable {X : Cx} {g : GG} {ε : EE} {K : PySem.W.Frag}
theorem bh.set {α : List Addr} {H : Hp} {h : Hh} {n : Nat} {p : Addr} {ns : List Int} (r : bh K g α H h) (e : setOf h n = some ns) (hp : α[n]? = some p) : H p = some (.set (fun k => ns.any (· == k)) ns.length) := by
  unfold setOf at e
  cases eo : h[n]? with
  | none => rw [eo] at e; cases e
  | some o =>
    rw [eo] at e
    cases o with
    | set k => cases e; exact r.here n p _ hp eo
    | _ => cases e
theorem C0 : lQ K g ε p9 (fun vs H Q => vs = [] /\ ∀ l, H l = none -> Q (.ref l) (upd H l (.set (fun _ => false) 0))) := by
  intro α H h a x Q r ra w
  unfold p9 at w
  cases ra with
  | cons _ _ => exact w.elim
  | nil =>
    refine ⟨rfl, fun l hn => ?_⟩
    refine (show aX K g α H Q _ _ from w) _ _ (α ++ [l]) (Ext.push hn) (r.push hn (show OAt K g _ _ l (.set []) from aY)) (.ref ?_)
    rw [<- r.len, List.getElem?_append_right (Nat.le_refl _)]; simp
theorem E2 {neg : Bool} : eE K g ε (wm neg) (GC neg) := by
  intro α H h a b x y Q r ra rb w
  unfold wm at w
  cases ra with
  | int i =>
    cases rb with
    | @ref n p hp =>
      simp only at w
      cases e : setOf h n with
      | none => rw [e] at w; exact w.elim
      | some ns =>
        rw [e] at w
        exact ⟨i, p, _, _, rfl, rfl, r.set e hp, aX.now w r (.bl _)⟩
    | _ => exact w.elim
  | _ => exact w.elim
theorem add_eq (ns : List Int) (i : Int) : (HO.set (fun k' => (ns.any (· == k')) || decide (k' = i)) (if (ns.any (· == i)) = true then ns.length else ns.length + 1)) = .set (fun k => (gU ns i).any (· == k)) (gU ns i).length := by
  unfold gU
  by_cases c : ns.any (· == i) = true
  · rw [if_pos c, if_pos c]
    congr 1
    funext k
    by_cases e : k = i
    · subst e; rw [c]; rfl
    · simp [e]
  · rw [if_neg c, if_neg c]
    congr 1
    · funext k
      rw [List.any_append]
      congr 1
      simp only [List.any_cons, List.any_nil, Bool.or_false]
      by_cases e : k = i
      · subst e; simp
      · have e' : ¬ i = k := fun z => e z.symm
        simp [e, e']
    · simp
theorem Dy : As K g ε lg DX := by
  intro α H h o a y x Q r ro ra w
  unfold lg at w
  cases ro with
  | @ref n p hp =>
    cases ra with
    | nil => exact w.elim
    | @cons d v _ _ rd rr =>
      cases rr with
      | cons _ _ => cases rd <;> exact w.elim
      | nil =>
        cases rd with
        | int i =>
          simp only at w
          cases e : setOf h n with
          | none => rw [e] at w; exact w.elim
          | some ns =>
            rw [e] at w
            obtain ⟨hl, w⟩ := WQ.e_ w
            refine ⟨p, _, _, i, rfl, rfl, r.set e hp, by show ns.length + 1 < 4096; omega, ?_⟩
            rw [add_eq]
            have x := Ext.write (o := .set (fun k => (gU ns i).any (· == k)) (gU ns i).length) r hp
            exact (show aX K g α H Q _ _ from w) _ _ α x (r.write hp (show OAt K g _ _ p (.set (gU ns i)) from aY)) .non
        | _ => exact w.elim
  | _ => exact w.elim
theorem C3 {α : List Addr} {H : Hp} {h : Hh} {d : D} {x : V} (r : bh K g α H h) (rd : aU K g α H d x) (e : isS d h = true) : tyV K "set" x H := by
  unfold isS at e
  cases rd with
  | @ref n p hp =>
    simp only at e
    obtain ⟨ns, e⟩ := Option.isSome_iff_exists.mp e
    exact .inr (.inr (.inr (.inl ⟨rfl, _, _, r.set e hp⟩)))
  | _ => cases e
theorem Fg {o e : Expr} {es : List Expr} {mo : ME} {mr : MA} {name : Str} {apos cpos : Pos} {id : String} {r : V -> List V -> Hp -> VK -> Prop} {f : D -> List D -> Hh -> R D} (slot : Slot "set" name id) (hty : typeOf (.builtin id) = pure (.type "method_descriptor")) (hm : MtM X id r) (im : As X.K g ε f r) (ho : PE X o (tM X.K g ε mo)) (ha : PA X (e :: es) (tMA X.K g ε mr))
    (hbase : attributeBase o name X.env (eval o X.env) = eval o X.env := by rfl)
    (hfew : ((backTo cpos (starEach (e :: es) X.env)).all (fun x => !x.1) && (backToKw cpos (keywordEach [] X.env)).all (fun x => x.1.isSome)
      && decide ((e :: es).length + ([] : List Keyword).length + (if ([] : List Keyword).isEmpty then 0 else 1) < 30)) = true := by rfl)
    (hline : (apos.endLine == cpos.line) = true := by rfl) (hs : starEach (e :: es) X.env = (false, eval e X.env) :: starEach es X.env := by rfl) (hplain : (backTo cpos (starEach es X.env)).any (·.1) = false := by rfl) :
    PE X (.Call (.Attribute o name apos) (e :: es) [] cpos) (tM X.K g ε (pJ f mo mr)) :=
  PE.imp (DY PySem.F.plainAttrs_set slot hty hm ho ha hbase hfew hline hs hplain) fun σ H Q ⟨α, env, h, s, w⟩ => tM.use s w.bind fun d1 h1 v1 H1 α1 e1 s1 r1 w1 => by
    obtain ⟨hl, w1⟩ := WQ.e_ w1
    refine ⟨C3 s1.heap r1 hl, tMA.use s1 (w1.ext e1).bind fun d2 h2 v2 H2 α2 e2 s2 r2 w2 => ?_⟩
    exact im α2 H2 h2 d1 d2 v1 v2 Q s2.heap (r1.ext e2) r2 ((w2.ext e2).mono fun _ _ _ p => aX.ext (e1.trans e2) p)
theorem B7 {p pos : Pos} (hg : Gl X "set") (hm : X.mg "set" = none) : PE X (.Call (.Name "set" p) [] [] pos) (tM X.K g ε (ah p9 ak)) :=
  PE.imp (vA yp hg hm PyProof.Rows.boot_set (by decide) (by decide)) fun σ H Q ⟨α, env, h, s, w⟩ => by
    exact C0 α H h [] [] Q s.heap .nil (by
      have := w.bind
      exact (show WQ X.K g ε α H (p9 [] h) _ from by simpa using w))
end
section
variable {h : Hh} {env : En}
@[simp] theorem D7 : p9 [] h = .ok (.ref h.length) (h ++ [.set []]) := Eq.trans rfl rfl
@[simp] theorem wY {f : D -> List D -> Hh -> R D} {o : ME} {a : MA} : pJ f o a env h = (o env h).bind fun x h1 => if isS x h1 = true then (a env h1).bind fun xs h2 => f x xs h2 else .bad := Eq.trans rfl rfl
theorem G9 {neg : Bool} {i : Int} {n : Nat} {ns : List Int} (e : setOf h n = some ns) : wm neg (.int i) (.ref n) h = .ok (.bl (if neg then !ns.any (· == i) else ns.any (· == i))) h := by delta wm; dsimp only; rw [e]
theorem uA {i : Int} {n : Nat} {ns : List Int} (e : setOf h n = some ns) : lg (.ref n) [.int i] h = if ns.length < 4000 then .ok .non (h.set n (.set (gU ns i))) else .bad := by delta lg; dsimp only; rw [e]
theorem Al {n : Nat} {ns : List Int} (e : setOf h n = some ns) : isS (.ref n) h = true := by delta isS; dsimp only; rw [e]; rfl
end
noncomputable def DH (h : Hh) (n : Nat) : Option (List (List Key × D)) := match h[n]? with
  | some (.dit kvs) => some kvs
  | _ => none
noncomputable def Ak : List (List Key × D) -> List Key -> Option D
  | [], _ => none
  | p :: r, k => if p.1 = k then some p.2 else Ak r k
noncomputable abbrev PDT (K : PySem.W.Frag) (g : GG) (α : List Addr) (H : Hp) : List (List Key × D) -> List (List Key × V) -> Prop := Paired (fun (a : List Key × D) (b : List Key × V) => a.1 = b.1 /\ aU K g α H a.2 b.2)
section
variable {K : PySem.W.Frag} {g : GG} {α : List Addr} {H : Hp} {h : Hh}
theorem bh.dit {n : Nat} {p : Addr} {kvs : List (List Key × D)} (r : bh K g α H h) (e : DH h n = some kvs) (hp : α[n]? = some p) : ∃ kws, H p = some (.dT kws) /\ PDT K g α H kvs kws := by
  unfold DH at e
  cases eo : h[n]? with
  | none => rw [eo] at e; cases e
  | some o =>
    rw [eo] at e
    cases o with
    | dit k => cases e; exact r.here n p _ hp eo
    | _ => cases e
theorem PDT.val (k : List Key) : ∀ {kvs : List (List Key × D)} {kws : List (List Key × V)}, PDT K g α H kvs kws -> (Ak kvs k = none /\ sd kws k = none) \/ ∃ d v, Ak kvs k = some d /\ sd kws k = some v /\ aU K g α H d v
  | _, _, .nil => .inl ⟨rfl, rfl⟩
  | p :: r, q :: t, .cons c rr => by
    by_cases e : p.1 = k
    · exact .inr ⟨p.2, q.2, if_pos e, uP (c.1 ▸ e), c.2⟩
    · rw [show Ak (p :: r) k = Ak r k from if_neg e, ua (c.1 ▸ e)]
      exact PDT.val k rr
theorem PDT.ext {α' : List Addr} {H' : Hp} {kvs : List (List Key × D)} {kws : List (List Key × V)} (e : Ext K α H α' H') (r : PDT K g α H kvs kws) : PDT K g α' H' kvs kws := Paired.Gx e.toEx0 r
theorem aX.dit {Q : VK} {kvs : List (List Key × D)} {kws : List (List Key × V)} {p : Addr} (w : aX K g α H Q (.ref h.length) (h ++ [.dit kvs])) (r : bh K g α H h) (rs : PDT K g α H kvs kws) (hp : H p = none) : Q (.ref p) (upd H p (.dT kws)) := by
  have x := Ext.push (K := K) (α := α) (o := .dT kws) hp
  exact w _ _ _ x (r.push hp ⟨_, aY, rs.ext x⟩) (.ref (by rw [<- r.len]; simp))
end
end L2.FE
namespace L2
open PySem PySem.Spec PyProof.Rows
noncomputable abbrev FA (J : It) (ix : List Nat) (σ : St) (wi2 : TI) (te : TE) (acc : Addr) (H1 : Hp) (Q : VK) : Prop :=
  ∃ W : Nat -> Nat -> List V -> Hp -> Prop, (∃ m, W 0 m [] (upd H1 acc (.lst []))) /\ ∀ i m ys H, W i m ys H →
    (J.stop i H /\ Q (.ref acc) H) \/ (J.go i H /\ ∀ σ0 x H', iR 2 ix σ σ0 -> J.yld i H x H' -> wi2 (σ0.set 0 (some x)) H' fun J2 H2 =>
      ∃ U : Nat -> Nat -> List V -> Hp -> Prop, (∃ m2, U 0 m2 ys H2) /\ ∀ j m2 zs H, U j m2 zs H -> (J2.stop j H /\ ∃ m', m' < m /\ W (i + 1) m' zs H) ∨
        (J2.go j H /\ ∀ y H', J2.yld j H y H' -> te ((σ0.set 0 (some x)).set 1 (some y)) H' fun v H3 => ∃ ks, H3 acc = some (.lst ks) /\ ks.length < sizeLine /\ ∃ m', m' < m2 /\ U (j + 1) m' (ks ++ [v]) (upd H3 acc (.lst (ks ++ [v])))))
noncomputable def vT (wi : TI) (ix : List Nat) (wi2 : TI) (te : TE) : TE := fun σ H Q => wi σ H fun J H1 => ∀ acc, H1 acc = none -> FA J ix σ wi2 te acc H1 Q
section
variable {prog : Program} {w : World} {A : Around} {R : Result -> Shared -> Prop} {s : Shared} {elt tg iter tg2 iter2 : Expr} {scope : Scope} {pos : Pos} {it acc : Value} {env : Env}
noncomputable abbrev e2 (elt tg iter tg2 iter2 : Expr) (scope : Scope) (pos : Pos) : Expr := .ListComp elt [⟨tg, iter, [], 0⟩, ⟨tg2, iter2, [], 0⟩] scope pos
theorem z_ : compTurn (e2 elt tg iter tg2 iter2 scope pos) 0 it acc env = (standAt iter.pos >>= fun _ => pyNext it >>= fun r => match r with
    | none => pure (.done .next)
    | some v => letOwnedTupleGo tg it v >>= fun _ => assign tg env v >>= fun _ =>
      eval iter2 env >>= fun x => standAt iter2.pos >>= fun _ => foldedSetIterable iter2 env x >>= fun x => holding [x] (pyIter x) >>= fun i2 => runOwn (.compStart (e2 elt tg iter tg2 iter2 scope pos) 1 i2 acc env) env >>= fun _ =>
        again (.compLoop (e2 elt tg iter tg2 iter2 scope pos) 0 it acc env)) := by rfl
theorem CM : compTurn (e2 elt tg iter tg2 iter2 scope pos) 1 it acc env = (standAt iter2.pos >>= fun _ => pyNext it >>= fun r => match r with
    | none => pure (.done .next)
    | some v => letOwnedTupleGo tg2 it v >>= fun _ => assign tg2 env v >>= fun _ =>
      (eval elt env >>= fun x => call (.builtin "list.append") [acc, x] >>= fun _ => pure ()) >>= fun _ =>
        again (.compLoop (e2 elt tg iter tg2 iter2 scope pos) 1 it acc env)) := by rfl
theorem zw (I : Nat -> Shared -> Prop)
    (turn : ∀ n s, I n s -> wpAny (model prog w) A (pyNext it) (fun r s₁ => match r with
      | none => R (.ok .next) s₁
      | some v => wpAny (model prog w) A (letOwnedTupleGo tg2 it v) (fun _ s₁ => wpAny (model prog w) A (assign tg2 env v) (fun _ s₂ =>
          wpAny (model prog w) A (eval elt env) (fun x s₄ => wpAny (model prog w) A (call (.builtin "list.append") [acc, x]) (fun _ s₅ => ∃ m, m < n /\ I m s₅) (fun _ _ => False) s₄) (fun _ _ => False) s₂) (fun _ _ => False) s₁) (fun _ _ => False) s₁) (fun _ _ => False) s)
    (n : Nat) (h : I n s) : codeAny (model prog w) A (.compLoop (e2 elt tg iter tg2 iter2 scope pos) 1 it acc env) R s := by
  refine codeAny_loop rfl I (fun n s hI => ?_) n h
  show wpAny _ A ((compTurn (e2 elt tg iter tg2 iter2 scope pos) 1 it acc env).onRaise (fun x => do noteFrame x env; theTreesLotGoes x)) _ _ s
  refine wpAny_noted ?_
  rw [CM]
  refine wpAny_noRaise ?_
  refine wpAny_bind (wpAny_standAt (wpAny_bind (thn (turn n s hI) fun r s₁ h₁ => ?_)))
  cases r with
  | none => exact wpAny_pure h₁
  | some v => exact wpAny_bind (thn h₁ fun _ s₂ h₂ => wpAny_bind (thn h₂ fun _ s₃ h₃ => wpAny_bind (wpAny_bind (thn h₃ fun x s₄ h₄ => wpAny_bind (thn h₄ fun _ s₅ h₅ => wpAny_pure (wpAny_pure ⟨rfl, h₅⟩))))))
theorem yt (I : Nat -> Shared -> Prop) (hf : ∀ x, foldedSetIterable iter2 env x = pure x)
    (turn : ∀ n s, I n s -> wpAny (model prog w) A (pyNext it) (fun r s₁ => match r with
      | none => R (.ok .next) s₁
      | some v => wpAny (model prog w) A (letOwnedTupleGo tg it v) (fun _ s₁ => wpAny (model prog w) A (assign tg env v) (fun _ s₂ =>
          wpAny (model prog w) A (eval iter2 env) (fun x s₃ => wpAny (model prog w) A (pyIter x) (fun i2 s₄ =>
            codeAny (model prog w) A (.compStart (e2 elt tg iter tg2 iter2 scope pos) 1 i2 acc env) (fun r s' => match r with
              | .ok _ => ∃ m, m < n /\ I m s'
              | .error _ => False) s₄) (fun _ _ => False) s₃) (fun _ _ => False) s₂) (fun _ _ => False) s₁) (fun _ _ => False) s₁) (fun _ _ => False) s)
    (n : Nat) (h : I n s) : codeAny (model prog w) A (.compLoop (e2 elt tg iter tg2 iter2 scope pos) 0 it acc env) R s := by
  refine codeAny_loop rfl I (fun n s hI => ?_) n h
  show wpAny _ A ((compTurn (e2 elt tg iter tg2 iter2 scope pos) 0 it acc env).onRaise (fun x => do noteFrame x env; theTreesLotGoes x)) _ _ s
  refine wpAny_noted ?_
  rw [z_]
  refine wpAny_noRaise ?_
  refine wpAny_bind (wpAny_standAt (wpAny_bind (thn (turn n s hI) fun r s₁ h₁ => ?_)))
  cases r with
  | none => exact wpAny_pure h₁
  | some v =>
    refine wpAny_bind (thn h₁ fun _ s₂ h₂ => wpAny_bind (thn h₂ fun _ s₃ h₃ => wpAny_bind (thn h₃ fun x s₄ h₄ => wpAny_bind (wpAny_standAt (wpAny_bind (wpAny_of_eq (hf x) (wpAny_bind (wpAny_holding (thn h₄ fun i2 s₅ h₅ => ?_)))))))))
    refine wpAny_bind (wpAny_runOwn (codeAny_mono h₅ fun r s' hr => ?_))
    cases r with
    | ok f => exact wpAny_pure ⟨rfl, hr⟩
    | error e => exact hr.elim
theorem yX : compStart (e2 elt tg iter tg2 iter2 scope pos) 1 it acc env = (ask >>= fun st => if st.params.followText "comprehension-iter-twice" = true then again (.compLoop (e2 elt tg iter tg2 iter2 scope pos) 1 it acc env) else
    rule "comprehension.iter-twice" >>= fun _ => standAt iter2.pos >>= fun _ => pyIter it >>= fun i' => again (.compLoop (e2 elt tg iter tg2 iter2 scope pos) 1 i' acc env)) := by rfl
theorem zE (h0 : codeAny (model prog w) A (.compLoop (e2 elt tg iter tg2 iter2 scope pos) 1 it acc env) R s)
    (h : wpAny (model prog w) A (pyIter it) (fun i' s' => codeAny (model prog w) A (.compLoop (e2 elt tg iter tg2 iter2 scope pos) 1 i' acc env) R s') (fun _ _ => False) s) :
    codeAny (model prog w) A (.compStart (e2 elt tg iter tg2 iter2 scope pos) 1 it acc env) R s := by
  refine codeAny_of_tree ?_
  show wpAny _ _ ((compStart (e2 elt tg iter tg2 iter2 scope pos) 1 it acc env).onRaise (fun x => do noteFrame x env; standAt theWindowsPlace)) _ _ s
  refine wpAny_notedAt ?_
  refine wpAny_noRaise ?_
  rw [yX]
  refine wpAny_bind (wpAny_askSetting ?_)
  split
  · exact wpAny_pure ⟨rfl, h0⟩
  · exact wpAny_bind (wpAny_rule (wpAny_bind (wpAny_standAt (wpAny_bind (thn h fun i' s' h' => wpAny_pure ⟨rfl, h'⟩)))))
end
end L2
namespace L2.FE
open PySem PySem.Spec PyProof.Rows
noncomputable def gO (ix : List Nat) (env : En) (a b : Option D) : En := a :: b :: ix.map fun i => (env[i]?).join
noncomputable def zq (n0 : Nat) (y : D) (h : Hh) : R Unit := match aH h n0 with
  | some ds => if ds.length < 1000000 then .ok () (h.set n0 (.lst (ds ++ [y]))) else .bad
  | none => .bad
noncomputable def uM (n0 : Nat) (rd : Rdr) (te : ME) (ff : D -> En) : Nat -> Nat -> Hh -> R Unit
  | k, j, h => match rd h j with
    | none => .bad
    | some none => .ok () h
    | some (some e) => match k with
      | 0 => .bad
      | k + 1 => (te (ff e) h).bind fun y h2 => (zq n0 y h2).bind fun _ h3 => uM n0 rd te ff k (j + 1) h3
noncomputable def qg (n0 : Nat) (rd : Rdr) (mi2 : MI) (te : ME) (ff : Option D -> Option D -> En) : Nat -> Nat -> Hh -> R Unit
  | k, i, h => match rd h i with
    | none => .bad
    | some none => .ok () h
    | some (some d) => match k with
      | 0 => .bad
      | k + 1 => (mi2 (ff (some d) none) h).bind fun sr h1 => (uM n0 sr.rdr te (fun e => ff (some d) (some e)) (sr.fuel h1) 0 h1).bind fun _ h2 => qg n0 rd mi2 te ff k (i + 1) h2
noncomputable def rS (mi : MI) (ix : List Nat) (mi2 : MI) (te : ME) : ME := fun env h => (mi env h).bind fun sr h1 => (qg h1.length sr.rdr mi2 te (gO ix env) (sr.fuel h1) 0 (h1 ++ [.lst []])).bind fun _ h2 => .ok (.ref h1.length) h2
section
variable {K : PySem.W.Frag} {g : GG}
theorem uE {α : List Addr} {H : Hp} {env : En} {σ : St} {ix : List Nat} {a b : Option D} {p q : Option V} (s : jd K g α H env σ) (ra : ∀ d, a = some d -> ∃ v, p = some v /\ aU K g α H d v) (rb : ∀ d, b = some d -> ∃ v, q = some v /\ aU K g α H d v) : jd K g α H (gO ix env a b) (p :: q :: ix.map fun i => (σ[i]?).join) := by
  refine ⟨by simp [gO], fun i e h => ?_⟩
  match i with
  | 0 =>
    have : a = some e := by simpa [gO] using h
    obtain ⟨v, rfl, r⟩ := ra e this
    exact ⟨v, rfl, r⟩
  | 1 =>
    have : b = some e := by simpa [gO] using h
    obtain ⟨v, rfl, r⟩ := rb e this
    exact ⟨v, rfl, r⟩
  | i + 2 =>
    have h' : (ix.map fun i => (env[i]?).join)[i]? = some (some e) := by simpa [gO] using h
    rw [List.getElem?_map] at h'
    cases ei : ix[i]? with
    | none => rw [ei] at h'; cases h'
    | some j =>
      rw [ei] at h'
      have h2 : (env[j]?).join = some e := by simpa using h'
      cases ej : env[j]? with
      | none => rw [ej] at h2; cases h2
      | some oe =>
        rw [ej] at h2
        have h3 : oe = some e := by simpa using h2
        subst h3
        obtain ⟨u, eu, ru⟩ := s.vars j e ej
        refine ⟨u, ?_, ru⟩
        simp only [List.getElem?_cons_succ, List.getElem?_map, ei, Option.map_some, eu]
        rfl
theorem sy {α α' : List Addr} {n : Nat} {p : Addr} {H H' : Hp} (e : Ext K α H α' H') (h : α[n]? = some p) : α'[n]? = some p := by
  obtain ⟨l, rfl⟩ := e.toEx0.pre
  rw [List.getElem?_append_left]
  · exact h
  · by_cases hl : n < α.length
    · exact hl
    · rw [List.getElem?_eq_none (by omega)] at h; cases h
end
end L2.FE
namespace L2
open PySem PySem.Spec PyProof.Rows
theorem vR {X : Cx} {use : Option (Value -> Sem Unit)} {Q2 : Value -> Shared -> Prop} {pins : List (Addr × Obj)} {s : Shared} {σ : St} {H : Hp} {Q : VK} {elt iter tg iter2 tg2 : Expr} {tn' : List Str} {scope osc : Scope} {pos : Pos} {wi wi2 : TI} {te : TE} (ix : List Nat) (N' : List Str)
    (hc : X.calm = true) (ho : X.env.scope = osc) (hN : N' = tn' ++ ix.map fun i => (X.N[i]?).getD ("" : Str)) (hnd : N'.Nodup)
    (hall : (∀ y ∈ scope.names, y.2 = .free -> osc.names.lookup y.1 = some .cell) /\ (∀ y ∈ scope.names, y.2 ≠ .cell) /\ scope.kind = .function /\ (∀ y ∈ scope.names, y.2 = .local -> scope.names.lookup y.1 = some .local) /\ (∀ y ∈ N'.drop tn'.length, scope.names.lookup y = some .free))
    (hi : PI X tg iter wi) (hg : ∀ cl C ay aB fp, PG (bf X.nox scope cl C ay aB fp N') tg (eA 0)) (hi2 : ∀ cl C ay aB fp, PI (bf X.nox scope cl C ay aB fp N') tg2 iter2 wi2) (hg2 : ∀ cl C ay aB fp, PG (bf X.nox scope cl C ay aB fp N') tg2 (eA 1))
    (he : ∀ cl C ay aB fp, PE (bf X.nox scope cl C ay aB fp N') elt te)
    (hs : ∀ x, foldedSetIterable iter X.env x = pure x) (hs2 : ∀ env x, foldedSetIterable iter2 env x = pure x) (h2n : tn'.length = 2) (I : Inv X pins σ H s) (h : vT wi ix wi2 te σ H Q)
    (hfin : ∀ (acc C : Addr) (H5 : Hp) (s5 : Shared) (o : Obj), Inv X (pins ++ [(C, o)]) σ H5 s5 -> (∀ x c, X.env.cells.lookup x = some c -> c ≠ C) -> X.ay.heap.objs.size <= C -> (∀ p ∈ X.pn ++ pins, p.1 ≠ C) -> (∃ m, ∀ h' : Heap, h'.get? C = some o -> h'.Ns C m) -> Q (.ref acc) H5 -> compPost (model X.prog X.w) X.A X.xe use Q2 (.ref acc) C (.ok .next) s5) :
    wpAny (model X.prog X.w) X.A (comprehension (.ListComp elt [⟨tg, iter, [], 0⟩, ⟨tg2, iter2, [], 0⟩] scope pos) scope X.env (firstIterPos [⟨tg, iter, [], 0⟩, ⟨tg2, iter2, [], 0⟩] pos) (newList []) false (eval iter X.env) use) Q2 X.xe s := by
  obtain ⟨hfr, hcell, hkind, hnames, hcap⟩ := hall
  subst ho
  have outc : ∀ y ∈ scope.names, y.2 = .free -> X.env.kindOf y.1 = some .cell := fun y hy q => hfr y hy q
  obtain ⟨cl, hclos, hcl1, hcl2⟩ := gK (env := X.env) (scope := scope) fun y hy q => I.ok.has y.1 (.inl (outc y hy q))
  refine wpAny_comprehension_free (use := use) rfl hs hclos hkind hnames (thn (hi pins s σ H _ I h) fun v s1 h1 => thn h1 fun itv s2 h2 => ?_)
  obtain ⟨it, fp, tn, J, H2, e, I2, T, st2, f2, rest⟩ := h2
  subst e
  have hf2 : H2 s2.heap.objs.size = none := I2.hok.fresh (Nat.le_refl _)
  obtain ⟨W, ⟨m0, w0⟩, turn⟩ := rest s2.heap.objs.size hf2
  -- the list
  refine wpAny_newObj_type ?_
  have I3 : Inv X pins σ (upd H2 s2.heap.objs.size (.lst [])) { s2 with heap := s2.heap.push { cls := .type "list", dict := none, data := .seq ([] : List Value).toArray } } := I2.zp (its := []) (t' := s2.toks) .nil (Nat.zero_le _)
  have keep3 : ∀ b o, s2.heap.get? b = some o -> (s2.heap.push { cls := .type "list", dict := none, data := .seq ([] : List Value).toArray }).get? b = some o := fun b o q => Heap.get?_push_of_some _ q
  have fp3 : ∀ b ∈ fp, ∃ o, s2.heap.get? b = some o /\ ∀ v, o.data ≠ .cell v := T.obj _ _ st2
  have st3 : tn 0 (s2.heap.push { cls := .type "list", dict := none, data := .seq ([] : List Value).toArray }) := T.keep _ _ _ st2 fun b _ o q => keep3 b o q
  have fpn : ∀ b ∈ fp, (upd H2 s2.heap.objs.size (HO.lst [])) b = none := fun b hb => by
    obtain ⟨o, q, _⟩ := fp3 b hb
    rw [aW (Nat.ne_of_lt (Heap.lt_size q))]
    exact (f2 b hb).1
  revert I3 keep3 st3 fpn w0
  generalize hS3 : ({ s2 with heap := s2.heap.push { cls := .type "list", dict := none, data := .seq ([] : List Value).toArray } } : Shared) = s3
  generalize hH3 : upd H2 s2.heap.objs.size (HO.lst []) = H3
  intro w0 I3 keep3 st3 fpn
  have acc3 : H3 s2.heap.objs.size = some (.lst []) := by rw [<- hH3]; exact aY
  generalize s2.heap.objs.size = acc at *
  have e3 : s2.heap.push { cls := .type "list", dict := none, data := .seq ([] : List Value).toArray } = s3.heap := by rw [<- hS3]
  have keep3' : ∀ b o, s2.heap.get? b = some o -> s3.heap.get? b = some o := fun b o q => by rw [<- e3]; exact keep3 b o q
  have st3' : tn 0 s3.heap := by rw [<- e3]; exact st3
  refine wpAny_newFunctionEnv hcell (by intro y hy; simp at hy) (fun h₁ hns₁ hsb₁ => ?_) hkind
  have hC : s3.heap.objs.size = s3.heap.objs.size := rfl
  have keep4 : ∀ b o, s3.heap.get? b = some o -> h₁.get? b = some o := fun b o q => hsb₁.extBut b o (Nat.ne_of_lt (Heap.lt_size q)) (Heap.get?_push_of_some _ q)
  have fpC : ∀ b ∈ fp, b ≠ s3.heap.objs.size := fun b hb => by
    obtain ⟨o, q, _⟩ := fp3 b hb
    exact Nat.ne_of_lt (Heap.lt_size (keep3' b o q))
  -- the block's context
  generalize hX' : bf X.nox scope cl s3.heap.objs.size s3 H3 fp N' = X'
  have hXp : X'.prog = X.prog := by rw [<- hX']; rfl
  have hXw : X'.w = X.w := by rw [<- hX']; rfl
  have hXK : X'.K = X.K := by rw [<- hX']; rfl
  have hXA : X'.A = X.A := by rw [<- hX']; rfl
  have hXe : X'.env = compEnvC scope cl s3.heap.objs.size X.env := by rw [<- hX']; rfl
  have hXc : X'.calm = true := by rw [<- hX']; exact hc
  have hXx : X'.xe = fun _ _ => False := by rw [<- hX']; rfl
  have hXf : X'.fs = frs X.stack := by rw [<- hX']; rfl
  have hXex : X'.ex = fp := by rw [<- hX']; rfl
  have hXN : X'.N = N' := by rw [<- hX']; rfl
  have hXs : X'.ay = s3 := by rw [<- hX']; rfl
  have hXH : X'.aB = H3 := by rw [<- hX']; rfl
  have hXpn : X'.pn = [] := by rw [<- hX']; rfl
  have okX : X'.Ok := by
    rw [<- hX']
    refine ⟨I3.ok.mod, hkind, I3.ok.glob, I3.ok.blt, Nat.le_refl _, fun a b c p q => I3.ok.inj a b c (hcl1 a c p) (hcl1 b c q), fun y hy => ?_, fun _ _ z => (by cases z), I3.ok.hd, I3.ok.frames, .inl rfl, fun b hb => ⟨fpC b hb, fun y c p => (f2 b hb).2.2.2.2.1 y c (hcl1 y c p)⟩,
      I3.bs, Nat.le_trans I3.ok.bsz I3.sz, fun b o p hb => ?_, fun b hb z => ?_, I3.stack, I3.nU⟩
    · have hy' : (relabel scope X.env).names.lookup y = some .cell \/ (relabel scope X.env).names.lookup y = some .free := hy
      have free : scope.names.lookup y = some .free -> ∃ c, cl.lookup y = some c := fun q => hcl2 y (lookup_mem q)
      rcases hy' with q | q
      · rcases cU q with z | ⟨z, _⟩
        · exact absurd rfl (hcell _ (lookup_mem z))
        · exact free z
      · rcases cU q with z | ⟨_, z⟩
        · exact free z
        · cases z
    · rcases (f2 b hb).2.2.2.1 with z | z
      · exact I3.ok.vB b o p z
      · exact absurd (Nat.lt_of_lt_of_le (Heap.lt_size p) (Nat.le_trans I3.ok.bsz z)) (Nat.lt_irrefl _)
    · rcases List.mem_cons.mp (I3.jq b z) with q | q
      · exact (f2 b hb).2.1 q
      · exact (f2 b hb).2.2.1 q
  have I4 : ∀ tk, Inv X' [] (qh tn'.length ix σ) H3 { s3 with heap := h₁, toks := tk } := fun tk => by
    have hloc := I3.loc
    refine ⟨okX, by rw [hXs], I3.bare, ?_, ⟨fun y => ([] : List (Str × Value)).reverse.lookup y, by rw [hXe]; exact hns₁, fun i y v e1 e2 e3 => ?_⟩, fun y c p => ?_, ?_, fun y c p => ?_, fun p hp => ?_, ?_, ?_⟩
    · rw [hXf, hXex, hXH, hXs]; exact Un.kept keep4
    · rw [hXN, hN] at e1
      by_cases hit' : i < tn'.length
      · exfalso
        unfold qh at e2
        rw [List.getElem?_append_left (by simpa using hit'), List.getElem?_replicate, if_pos hit'] at e2
        cases e2
      · have e10 : N'[i]? = some y := by rw [hN]; exact e1
        obtain ⟨j, rfl⟩ : ∃ j, i = tn'.length + j := ⟨i - tn'.length, by omega⟩
        have e1' : (ix.map fun i => (X.N[i]?).getD ("" : Str))[j]? = some y := by
          rw [List.getElem?_append_right (by omega)] at e1
          rw [show tn'.length + j - tn'.length = j by omega] at e1
          exact e1
        have e2' : (ix.map fun i => (σ[i]?).join)[j]? = some (some v) := by
          unfold qh at e2
          rw [List.getElem?_append_right (by simp)] at e2
          simpa using e2
        rw [List.getElem?_map] at e1' e2'
        cases hj : ix[j]? with
        | none => rw [hj] at e1'; cases e1'
        | some i0 =>
          rw [hj] at e1' e2'
          have e1'' : (X.N[i0]?).getD ("" : Str) = y := by simpa using e1'
          have e2'' : (σ[i0]?).join = some v := by simpa using e2'
          have hsv : σ[i0]? = some (some v) := by
            cases q : σ[i0]? with
            | none => rw [q] at e2''; cases e2''
            | some z => rw [q] at e2''; have : z = some v := by simpa using e2''
                        rw [this]
          have hlt : i0 < X.N.length := by
            have := (List.getElem?_eq_some_iff.mp hsv).1
            rw [I3.len] at this; exact this
          have hNy : X.N[i0]? = some y := by
            rw [List.getElem?_eq_getElem hlt] at e1'' ⊢
            simpa using e1''
          have hyt : y ∈ N'.drop tn'.length := by
            refine List.mem_of_getElem? (i := j) ?_
            rw [List.getElem?_drop]; exact e10
          have hyf := hcap y hyt
          have hyc := outc (y, .free) (lookup_mem hyf) rfl
          obtain ⟨m, hn, hl⟩ := hloc
          obtain ⟨u, r, l⟩ := hl i0 y v hNy hsv (.inr (.inl hyc))
          refine ⟨u, r, ?_⟩
          rcases l with ⟨k1, _⟩ | ⟨_, c, p, z⟩
          · have hyc' : X.env.kindOf y = some .cell := hyc
            rw [k1] at hyc'; cases hyc'
          · obtain ⟨c', p'⟩ := hcl2 y (lookup_mem hyf)
            have pc : c' = c := by
              have := hcl1 y c' p'
              rw [p] at this; cases this; rfl
            subst pc
            refine .inr ⟨.inl ?_, c', by rw [hXe]; exact p', ?_⟩
            · rw [hXe]; exact cM I3.ok.kind hyf hyc
            · obtain ⟨o, q1, q2⟩ := z
              exact ⟨o, keep4 c' o q1, q2⟩
    · rw [hXe] at p
      obtain ⟨v, o, q1, q2⟩ := I3.cell y c (hcl1 y c p)
      exact ⟨v, o, keep4 c o q1, q2⟩
    · rw [hXe]; exact I3.hok.fresh (Nat.le_refl _)
    · rw [hXe] at p; exact I3.iS y c (hcl1 y c p)
    · rw [hXpn] at hp; cases hp
    · rw [hXp, hXw]; exact I3.hok.kept keep4
    · rw [hXN, hN]; simp [qh]
  -- the loop
  have stat : ∀ {H' : Hp}, (∀ b ∈ fp, H' b = none) -> ∀ b ∈ fp, kZ X' [] H' b := fun hn b hb => by
    refine ⟨hn b hb, by rw [hXe]; exact fpC b hb, ?_, .inl (by rw [hXex]; exact hb), fun y c p => ?_, fun p hp => by rw [hXpn] at hp; cases hp⟩
    · rw [hXf]; intro z
      rcases List.mem_cons.mp (I3.jq b z) with q | q
      · exact (f2 b hb).2.1 q
      · exact (f2 b hb).2.2.1 q
    · rw [hXe] at p; exact (f2 b hb).2.2.2.2.1 y c (hcl1 y c p)
  have fin : ∀ {H5 : Hp} {s5 : Shared} {σ5 : St}, Inv X' [] σ5 H5 s5 -> Q (.ref acc) H5 -> compPost (model X.prog X.w) X.A X.xe use Q2 (.ref acc) s3.heap.objs.size (.ok .next) s5 := fun {H5 s5 σ5} I5 q => by
    obtain ⟨m, hn, _⟩ := I5.loc
    rw [hXe] at hn
    have hn' : s5.heap.Ns s3.heap.objs.size m := hn
    obtain ⟨oC, esC, epC, hC1, hC2, hC3⟩ := hn'
    have u5 := I5.base
    rw [hXf, hXex, hXH, hXs] at u5
    have fr : H5 s3.heap.objs.size = none := by have := I5.free; rw [hXe] at this; exact this
    have hok5 := I5.hok
    rw [hXp, hXw] at hok5
    have hos : s5.os = s3.os := by have := I5.os; rw [hXs] at this; exact this
    have IX : Inv X pins σ H5 s5 := I3.rh (s' := s5) (ch := fp) hos u5 hok5 I5.bare (fun b hb => by
      obtain ⟨g0, g1, g2, g3, g4, g5⟩ := f2 b hb
      exact ⟨g3, g1, g4, g5⟩)
    have cC : ∀ x c, X.env.cells.lookup x = some c -> c ≠ s3.heap.objs.size := fun x c z e => by
      obtain ⟨v, q⟩ := I3.cell x c z
      exact absurd q.lt (by rw [e]; exact Nat.lt_irrefl _)
    have pC : ∀ p ∈ X.pn ++ pins, p.1 ≠ s3.heap.objs.size := fun p hp e => by
      have := Heap.lt_size (I3.pin p hp).1
      rw [e] at this
      exact Nat.lt_irrefl _ this
    refine hfin acc s3.heap.objs.size H5 s5 oC (IX.kM fun p hp => ?_) cC I3.sz pC ⟨m, fun h' z => ⟨oC, esC, epC, z, hC2, hC3⟩⟩ q
    rcases List.mem_append.mp hp with z | z
    · exact IX.pin p (List.mem_append_right _ z)
    · have e := List.mem_singleton.mp z
      subst e
      refine ⟨hC1, fr, Nat.ne_of_gt I3.lt, I3.FL (Nat.le_refl _), fun v e => ?_⟩
      have e' : oC.data = .cell v := e
      rw [hC2] at e'; cases e'
  have IsC : ∀ {σ0 : St} {i : Nat} {v : Option V}, iR 2 ix σ σ0 -> i < 2 -> iR 2 ix σ (σ0.set i v) := fun {σ0 i v} ⟨ts, hl, e⟩ hi => ⟨ts.set i v, by rw [List.length_set]; exact hl, by rw [e, List.set_append_left _ _ (by rw [hl]; exact hi)]⟩
  have loop : ∀ tk, codeAny (model X.prog X.w) X.A (.compLoop (.ListComp elt [⟨tg, iter, [], 0⟩, ⟨tg2, iter2, [], 0⟩] scope pos) 0 (.ref it) (.ref acc) (compEnvC scope cl s3.heap.objs.size X.env))
      (compPost (model X.prog X.w) X.A X.xe use Q2 (.ref acc) s3.heap.objs.size) { s3 with heap := h₁, toks := tk } := fun tk => by
    refine yt (fun n s' => ∃ i ys σ' H', Inv X' [] σ' H' s' /\ iR 2 ix σ σ' /\ tn i s'.heap /\ (∀ b ∈ fp, H' b = none) /\ W i n ys H') (hs2 _) (fun n s5 h5 => ?_) m0
      ⟨0, [], qh tn'.length ix σ, H3, I4 tk, ⟨_, by rw [List.length_replicate]; exact h2n, rfl⟩, T.keep _ _ _ st3' fun b _ o q => keep4 b o q, fpn, w0⟩
    obtain ⟨i, ys, σ5, H5, I5, hσ, st5, fr5, w5⟩ := h5
    rcases turn i n ys H5 w5 with ⟨stop, q⟩ | ⟨go, step⟩
    · have d := T.done X' hXp hXw hXK hXc i [] s5 σ5 H5 (fun _ _ => False) I5 (stat fr5) st5 stop
      rw [hXA] at d
      refine thn d fun r s6 ⟨hr, I6⟩ => ?_
      subst hr
      exact fin I6 q
    · have d := T.item X' hXp hXw hXK hXc i [] s5 σ5 H5 (fun _ _ => False) I5 (stat fr5) st5 go
      rw [hXA] at d
      refine thn d fun r s6 ⟨u, hr, h6⟩ => ?_
      subst hr
      refine thn h6 fun _ s7 ⟨z, H7, I7, r7, y7, st7, fr7⟩ => ?_
      have I7' := I7.pinned (stat fr7) (T.obj _ _ st7)
      have again : ∀ {H9 : Hp} {s9 : Shared} {ys9 : List V} {σ9 : St}, Inv X' ([] ++ ib fp s7.heap) σ9 H9 s9 -> iR 2 ix σ σ9 -> (∃ m', m' < n /\ W (i + 1) m' ys9 H9) -> ∃ m', m' < n /\ ∃ i ys σ' H', Inv X' [] σ' H' s9 /\ iR 2 ix σ σ' /\ tn i s9.heap /\ (∀ b ∈ fp, H' b = none) /\ W i m' ys H' := fun {H9 s9 ys9 σ9} I9 c9 ⟨m', hm, w9⟩ => by
        refine ⟨m', hm, i + 1, ys9, _, H9, I9.fJ, c9, T.keep _ _ _ st7 fun b hb o e => (I9.pin (b, o) (List.mem_append_right _ (List.mem_append_right _ (cJ hb e)))).1, fun b hb => ?_, w9⟩
        obtain ⟨o, e, _⟩ := T.obj _ _ st7 b hb
        exact (I9.pin (b, o) (List.mem_append_right _ (List.mem_append_right _ (cJ hb e)))).2.1
      have he' := he cl s3.heap.objs.size s3 H3 fp
      have hg' := hg cl s3.heap.objs.size s3 H3 fp
      have hg2' := hg2 cl s3.heap.objs.size s3 H3 fp
      have hi2' := hi2 cl s3.heap.objs.size s3 H3 fp
      rw [hX'] at he' hg' hg2' hi2'
      rw [<- hXe]
      have a0 := hg' _ s7 σ5 H7 z u (fun σ2 Hn => σ2 = σ5.set 0 (some z) /\ Hn = H7) I7' r7 ⟨rfl, rfl⟩
      rw [hXp, hXw, hXA, hXx] at a0
      refine thn a0 fun _ s8 ⟨σ8, H8, I8, e8, e8'⟩ => ?_
      subst e8 e8'
      have a1 := hi2' _ s8 _ H8 _ I8 (step σ5 z H8 hσ y7)
      rw [hXp, hXw, hXA, hXx] at a1
      refine thn a1 fun v2 s9 h9 => thn h9 fun itv2 s10 h10 => ?_
      obtain ⟨it2, fp2, tn2, J2, H10, e10, I10, T2, st10, f10, V, ⟨m2, v0⟩, turn2⟩ := h10
      subst e10
      rw [hXp, hXw, hXK] at T2
      have stat2 : ∀ {H' : Hp}, (∀ b ∈ fp2, H' b = none) -> ∀ b ∈ fp2, kZ X' ([] ++ ib fp s7.heap) H' b := fun hn b hb => ⟨hn b hb, (f10 b hb).2⟩
      have inner : codeAny (model X.prog X.w) X.A (.compLoop (.ListComp elt [⟨tg, iter, [], 0⟩, ⟨tg2, iter2, [], 0⟩] scope pos) 1 (.ref it2) (.ref acc) X'.env) (fun r s' => match r with
          | .ok _ => ∃ m', m' < n /\ ∃ i ys σ' H', Inv X' [] σ' H' s' /\ iR 2 ix σ σ' /\ tn i s'.heap /\ (∀ b ∈ fp, H' b = none) /\ W i m' ys H'
          | .error _ => False) s10 := by
        refine zw (fun m s' => ∃ j zs uo H', Inv X' ([] ++ ib fp s7.heap) ((σ5.set 0 (some z)).set 1 uo) H' s' /\ tn2 j s'.heap /\ (∀ b ∈ fp2, H' b = none) /\ V j m zs H') (fun m s11 h11 => ?_) m2 ⟨0, ys, ((σ5.set 0 (some z))[1]?).join, H10, ?_, st10, fun b hb => (f10 b hb).1, v0⟩
        · obtain ⟨j, zs, uo, H11, I11, st11, fr11, v11⟩ := h11
          rcases turn2 j m zs H11 v11 with ⟨stop2, q2⟩ | ⟨go2, step2⟩
          · have d := T2.done X' hXp hXw hXK hXc j _ s11 _ H11 (fun _ _ => False) I11 (stat2 fr11) st11 stop2
            rw [hXA] at d
            refine thn d fun r s12 ⟨hr, I12⟩ => ?_
            subst hr
            exact again I12 (IsC (IsC hσ (by decide)) (by decide)) q2
          · have d := T2.item X' hXp hXw hXK hXc j _ s11 _ H11 (fun _ _ => False) I11 (stat2 fr11) st11 go2
            rw [hXA] at d
            refine thn d fun r s12 ⟨u2, hr, h12⟩ => ?_
            subst hr
            refine thn h12 fun _ s13 ⟨z2, H13, I13, r13, y13, st13, fr13⟩ => ?_
            have I13' := I13.pinned (stat2 fr13) (T2.obj _ _ st13)
            have b0 := hg2' _ s13 _ H13 z2 u2 (fun σ2 Hn => σ2 = ((σ5.set 0 (some z)).set 1 uo).set 1 (some z2) /\ Hn = H13) I13' r13 ⟨rfl, rfl⟩
            rw [hXp, hXw, hXA, hXx] at b0
            refine thn b0 fun _ s14 ⟨σ14, H14, I14, e14, e14'⟩ => ?_
            subst e14 e14'
            rw [List.set_set] at I14
            have b1 := he' _ s14 _ H14 _ I14 (step2 z2 H14 y13)
            rw [hXp, hXw, hXA, hXx] at b1
            refine thn b1 fun yv s15 ⟨y, H15, I15, r15, ks, q1, q2, q3⟩ => ?_
            have b2 := fG (X := X') _ s15 _ H15 (.ref acc) [y] (.ref acc) [yv] (fun _ Hq => ∃ m', m' < m /\ V (j + 1) m' (ks ++ [y]) Hq) I15 rfl (.cons r15 .nil) ⟨acc, ks, y, rfl, rfl, q1, q2, q3⟩
            rw [hXp, hXw, hXA, hXx] at b2
            refine thn b2 fun _ s16 ⟨_, H16, I16, _, m', hm', w16⟩ => ?_
            refine ⟨m', hm', j + 1, ks ++ [y], some z2, H16, I16.fJ, T2.keep _ _ _ st13 fun b hb o e => (I16.pin (b, o) (List.mem_append_right _ (List.mem_append_right _ (cJ hb e)))).1, fun b hb => ?_, w16⟩
            obtain ⟨o, e, _⟩ := T2.obj _ _ st13 b hb
            exact (I16.pin (b, o) (List.mem_append_right _ (List.mem_append_right _ (cJ hb e)))).2.1
        · have : (σ5.set 0 (some z)).set 1 ((σ5.set 0 (some z))[1]?).join = σ5.set 0 (some z) := by
            obtain ⟨ts, hl, e⟩ := hσ
            match ts, hl with
            | [p, q], _ => rw [e]; rfl
          rw [this]; exact I10
      refine zE inner ?_
      exact T2.self _ 0 _ _ _ st10 inner
  refine codeAny_compStart_list (loop _) ?_
  exact T.self _ 0 _ _ _ (T.keep _ _ _ st3' fun b _ o q => keep4 b o q) (loop _)
section
variable {X : Cx} {elt iter tg iter2 tg2 : Expr} {scope osc : Scope} {pos : Pos} {wi wi2 : TI} {te : TE}
theorem ym (ix : List Nat) (tn' N' : List Str) (h2n : tn'.length = 2)
    (hc : X.calm = true) (ho : X.env.scope = osc) (hN : N' = tn' ++ ix.map fun i => (X.N[i]?).getD ("" : Str)) (hnd : N'.Nodup)
    (hall : (∀ y ∈ scope.names, y.2 = .free -> osc.names.lookup y.1 = some .cell) /\ (∀ y ∈ scope.names, y.2 ≠ .cell) /\ scope.kind = .function /\ (∀ y ∈ scope.names, y.2 = .local -> scope.names.lookup y.1 = some .local) /\ (∀ y ∈ N'.drop tn'.length, scope.names.lookup y = some .free))
    (hi : PI X tg iter wi) (hg : ∀ cl C ay aB fp, PG (bf X.nox scope cl C ay aB fp N') tg (eA 0)) (hi2 : ∀ cl C ay aB fp, PI (bf X.nox scope cl C ay aB fp N') tg2 iter2 wi2) (hg2 : ∀ cl C ay aB fp, PG (bf X.nox scope cl C ay aB fp N') tg2 (eA 1))
    (he : ∀ cl C ay aB fp, PE (bf X.nox scope cl C ay aB fp N') elt te)
    (hs : ∀ x, foldedSetIterable iter X.env x = pure x := by intro _; rfl) (hs2 : ∀ env x, foldedSetIterable iter2 env x = pure x := by intro _ _; rfl) :
    PE X (.ListComp elt [⟨tg, iter, [], 0⟩, ⟨tg2, iter2, [], 0⟩] scope pos) (vT wi ix wi2 te) := by
  intro pins s σ H Q I h
  have e : eval (.ListComp elt [⟨tg, iter, [], 0⟩, ⟨tg2, iter2, [], 0⟩] scope pos) X.env = comprehension (.ListComp elt [⟨tg, iter, [], 0⟩, ⟨tg2, iter2, [], 0⟩] scope pos) scope X.env (firstIterPos [⟨tg, iter, [], 0⟩, ⟨tg2, iter2, [], 0⟩] pos) (newList []) false (eval iter X.env) none := by
    rw [eval_ListComp]; rfl
  rw [e]
  refine vR (use := none) (Q2 := EP X pins σ Q) ix N' hc ho hN hnd hall hi hg hi2 hg2 he hs hs2 h2n I h fun acc C H5 s5 o I5 cC hC pC hm q => ?_
  obtain ⟨m, hm⟩ := hm
  exact ⟨m, hm _ (I5.pin (C, o) (List.mem_append_right _ (List.mem_append_right _ (List.mem_singleton.mpr rfl)))).1, fun h' hs' => ⟨.ref acc, H5, I5.D1 cC hC pC hs', rfl, q⟩⟩
end
end L2
namespace L2.FE
open PySem PySem.Spec PyProof.Rows
noncomputable def lI (mi : MI) (ix : List Nat) (mi2 : MI) (te : ME) : ME := fun env h => (mi env h).bind fun sr h1 => noR (rS (fun _ h => .ok sr h) ix mi2 te env h1)
section
variable {K : PySem.W.Frag} {g : GG}
theorem vz {ε : EE} {mi mi2 : MI} {te : ME} {ix : List Nat} {σ : St} {H : Hp} {Q : VK} (t : tM K g ε (lI mi ix mi2 te) σ H Q) : vT (tMI K g ε mi) ix (tMI K g E00 mi2) (tM K g E00 te) σ H Q := by
  obtain ⟨α, env, h, s, w⟩ := t
  unfold lI at w
  refine ⟨α, env, h, s, w.bind.mono fun sr h1 _ w1 J H1 α1 e1 hr1 rd => fun acc hacc => ?_⟩
  have w1 : WQ K g E00 α H ((qg h1.length sr.rdr mi2 te (gO ix env) (sr.fuel h1) 0 (h1 ++ [.lst []])).bind fun _ h2 => .ok (.ref h1.length) h2) (aX K g α H Q) := EA w1
  have s1 := s.ext e1 hr1
  have xp : Ext K α1 H1 (α1 ++ [acc]) (upd H1 acc (.lst [])) := Ext.push hacc
  have hrp : bh K g (α1 ++ [acc]) (upd H1 acc (.lst [])) (h1 ++ [.lst []]) := hr1.push hacc ⟨[], aY, .nil⟩
  have p0 : (α1 ++ [acc])[h1.length]? = some acc := by rw [<- hr1.len]; simp
  refine ⟨fun i m ys H => ∃ α h, Ext K α1 H1 α H /\ α[h1.length]? = some acc /\ bh K g α H h ∧
    WQ K g E00 α1 H1 ((qg h1.length sr.rdr mi2 te (gO ix env) m i h).bind fun _ h2 => .ok (.ref h1.length) h2) (aX K g α1 H1 Q),
    ⟨sr.fuel h1, _, _, xp, p0, hrp, w1.post e1⟩, ?_⟩
  rintro i m ys H2 ⟨α2, h2, x2, p2, hr2, w2⟩
  have q := rd α2 H2 h2 x2 hr2 i
  unfold qg at w2
  cases e : sr.rdr h2 i with
  | none => rw [e] at w2; exact w2.elim
  | some od =>
    rw [e] at w2 q
    cases od with
    | none => exact .inl ⟨q, (show aX K g α1 H1 Q (.ref h1.length) h2 from w2) _ _ _ x2 hr2 (.ref p2)⟩
    | some d =>
      cases m with
      | zero => exact w2.elim
      | succ m =>
        rw [bV] at w2
        have w3 := WQ.bind (show WQ K g E00 α1 H1 ((mi2 (gO ix env (some d) none) h2).bind _) _ from w2)
        refine .inr ⟨q.1, fun σ0 x H3 hcap y => ?_⟩
        obtain ⟨ts, hl, hσ0⟩ := hcap
        match ts, hl with
        | [v0, q0], _ =>
        subst hσ0
        obtain ⟨α3, x3, hr3, rx⟩ := q.2 x H3 y
        have s3 : dJ K g α3 H3 (gO ix env (some d) none) (some x :: q0 :: ix.map fun i => (σ[i]?).join) h2 := ⟨hr3, uE (s1.vs.ext (x2.trans x3)) (fun d' hd => by cases hd; exact ⟨x, rfl, rx⟩) (fun d' hd => by cases hd)⟩
        refine ⟨α3, _, h2, s3, ((w3.ext x2).ext x3).mono fun sr2 h4 _ w4 J2 H4 α4 x4 hr4 rd2 => ?_⟩
        have x14 := x2.trans (x3.trans x4)
        have p4 := sy (x3.trans x4) p2
        refine ⟨fun j m2 zs H => ∃ α h, Ext K α4 H4 α H /\ bh K g α H h ∧
          WQ K g E00 α1 H1 (((uM h1.length sr2.rdr te (fun e => gO ix env (some d) (some e)) m2 j h).bind fun _ h2 => qg h1.length sr.rdr mi2 te (gO ix env) m (i + 1) h2).bind fun _ h2 => .ok (.ref h1.length) h2) (aX K g α1 H1 Q),
          ⟨sr2.fuel h4, α4, h4, Ext.refl, hr4, w4⟩, ?_⟩
        rintro j m2 zs H5 ⟨α5, h5, x5, hr5, w5⟩
        have q2 := rd2 α5 H5 h5 x5 hr5 j
        have p5 := sy x5 p4
        unfold uM at w5
        cases e2 : sr2.rdr h5 j with
        | none => rw [e2] at w5; exact w5.elim
        | some od2 =>
          rw [e2] at w5 q2
          cases od2 with
          | none => exact .inl ⟨q2, m, Nat.lt_succ_self _, α5, h5, x14.trans x5, p5, hr5, w5⟩
          | some d2 =>
            cases m2 with
            | zero => exact w5.elim
            | succ m2 =>
              have w6 : WQ K g E00 α1 H1 ((te (gO ix env (some d) (some d2)) h5).bind fun y h2 => (((zq h1.length y h2).bind fun _ h3 => uM h1.length sr2.rdr te (fun e => gO ix env (some d) (some e)) m2 (j + 1) h3).bind fun _ h2 => qg h1.length sr.rdr mi2 te (gO ix env) m (i + 1) h2).bind fun _ h2 => .ok (.ref h1.length) h2) (aX K g α1 H1 Q) := by
                have := w5
                simp only [bV] at this ⊢
                exact this
              refine .inr ⟨q2.1, fun yv H6 yy => ?_⟩
              obtain ⟨α6, x6, hr6, ry⟩ := q2.2 yv H6 yy
              have s6 : dJ K g α6 H6 (gO ix env (some d) (some d2)) (some x :: some yv :: ix.map fun i => (σ[i]?).join) h5 := ⟨hr6, uE (s1.vs.ext (x14.trans (x5.trans x6))) (fun d' hd => by cases hd; exact ⟨x, rfl, rx.ext (x4.trans (x5.trans x6))⟩) (fun d' hd => by cases hd; exact ⟨yv, rfl, ry⟩)⟩
              refine tM.use s6 ((WQ.bind w6).ext (x14.trans (x5.trans x6))) fun y h7 v7 H7 α7 x7 s7 r7 w7 => ?_
              have p7 := sy (x6.trans x7) p5
              unfold zq at w7
              cases el : aH h7 h1.length with
              | none => rw [el] at w7; exact w7.elim
              | some ds =>
                rw [el] at w7
                dsimp only at w7
                by_cases hlen : ds.length < 1000000
                · rw [if_pos hlen] at w7
                  obtain ⟨vs, hv, rs⟩ := s7.heap.lst el p7
                  have x := Ext.write (K := K) (o := .lst (vs ++ [v7])) s7.heap p7
                  exact ⟨vs, hv, by rw [<- rs.length, sizeLine_eq]; omega, m2, Nat.lt_succ_self _, α7, _, (x5.trans (x6.trans x7)).trans x, s7.heap.write (u' := .lst (ds ++ [y])) p7 ⟨_, aY, (rs.append (.cons r7 .nil)).ext x⟩, w7⟩
                · rw [if_neg hlen] at w7; exact w7.elim
end
section
variable {X : Cx} {g : GG}
theorem yn {ε : EE} {elt iter iter2 : Expr} {x y : Str} {px py : Pos} {scope osc : Scope} {pos : Pos} {mi mi2 : MI} {te : ME} (ix : List Nat) (N' : List Str)
    (hc : X.calm = true) (ho : X.env.scope = osc) (hN : N' = [x, y] ++ ix.map fun i => (X.N[i]?).getD ("" : Str)) (hnd : N'.Nodup)
    (hall : (∀ y ∈ scope.names, y.2 = .free -> osc.names.lookup y.1 = some .cell) /\ (∀ y ∈ scope.names, y.2 ≠ .cell) /\ scope.kind = .function /\ (∀ y ∈ scope.names, y.2 = .local -> scope.names.lookup y.1 = some .local) /\ (∀ z ∈ N'.drop [x, y].length, scope.names.lookup z = some .free))
    (hi : PI X (.Name x px) iter (tMI X.K g ε mi))
    (hx : ∀ cl C ay aB fp, Loc (bf X.nox scope cl C ay aB fp N').env.scope x /\ (bf X.nox scope cl C ay aB fp N').env.scope.names.lookup x = some .local) (hy : ∀ cl C ay aB fp, Loc (bf X.nox scope cl C ay aB fp N').env.scope y /\ (bf X.nox scope cl C ay aB fp N').env.scope.names.lookup y = some .local)
    (hi2 : ∀ cl C ay aB fp, PI (bf X.nox scope cl C ay aB fp N') (.Name y py) iter2 (tMI X.K g E00 mi2))
    (he : ∀ cl C ay aB fp, PE (bf X.nox scope cl C ay aB fp N') elt (tM X.K g E00 te))
    (hs : ∀ x, foldedSetIterable iter X.env x = pure x := by intro _; rfl) (hs2 : ∀ env x, foldedSetIterable iter2 env x = pure x := by intro _ _; rfl) :
    PE X (.ListComp elt [⟨.Name x px, iter, [], 0⟩, ⟨.Name y py, iter2, [], 0⟩] scope pos) (tM X.K g ε (lI mi ix mi2 te)) :=
  PE.imp (ym ix [x, y] N' rfl hc ho hN hnd hall hi (fun cl C ay aB fp => bw (X := bf X.nox scope cl C ay aB fp N') hnd (show N'[0]? = some x by rw [hN]; rfl) (hx cl C ay aB fp).1 (.inr (hx cl C ay aB fp).2)) hi2 (fun cl C ay aB fp => bw (X := bf X.nox scope cl C ay aB fp N') hnd (show N'[1]? = some y by rw [hN]; rfl) (hy cl C ay aB fp).1 (.inr (hy cl C ay aB fp).2)) he hs hs2) fun σ H Q t => vz t
end
section
variable {env : En} {h : Hh}
@[simp] theorem GI {mi mi2 : MI} {ix : List Nat} {te : ME} : lI mi ix mi2 te env h = (mi env h).bind fun sr h1 => noR (rS (fun _ h => .ok sr h) ix mi2 te env h1) := Eq.trans rfl rfl
end
section
variable {X : Cx} {g : GG} {ε : EE} {K : PySem.W.Frag}
theorem x8 (hc : X.calm = true) : bO X (.builtin "max") (fun vs H Q => ∃ (p : Addr) (ns : List Int), vs = [.ref p] /\ SqT X.K H p (ns.map V.int) /\ 0 < ns.length /\ Q (.int (jc ns)) H) := by
  intro pins s σ H xs us Q I r h
  obtain ⟨p, ns, rfl, hq, hpos, q⟩ := h
  obtain ⟨u, rfl, rx⟩ := vals1 r
  cases rx
  have hh : X.A.in1.handled = none := I.ok.hd hc
  obtain ⟨its, rv, pl, hz⟩ := I.tuple hq
  have hl : its.toArray.size = ns.length := by rw [List.size_toArray, <- rv.length, List.length_map]
  have val : ∀ i v, its.toArray[i]? = some v -> ∃ t : Tok, v = Value.int (ns.getD i 0) t := fun i v e => by
    obtain ⟨x, hx, rxv⟩ := rv.get' (show its[i]? = some v by simpa using e)
    rw [List.getElem?_map] at hx
    cases en : ns[i]? with
    | none => rw [en] at hx; cases hx
    | some z =>
      rw [en] at hx
      cases hx
      obtain ⟨t, e⟩ := rxv
      exact ⟨t, by rw [List.getD_eq_getElem?_getD, en]; exact e⟩
  have plt : p < s.heap.objs.size := by obtain ⟨o, e, _⟩ := pl; exact Heap.lt_size e
  have hne : p ≠ s.heap.objs.size := Nat.ne_of_lt plt
  refine call_max_walk (wpAny_pyIter_tuple pl ?_)
  refine ⟨s.heap.objs.size, _, _, its.toArray.size, _, _, _, rfl, Walks.tuple (prog := X.prog) (w := X.w) hh s.heap.objs.size p hne its.toArray, ⟨⟨_, Heap.get?_push_size _ rfl, rfl, rfl⟩, ?_⟩, fun b hb => ?_, by omega, CmpOf.ints_gt (fun i => ns.getD i 0) val, fun v h' tk hv hk => ?_⟩
  · exact (show s.heap.IsTuple p its.toArray from pl).at fun o e => Heap.get?_push_of_some _ e
  · simp at hb
    rcases hb with rfl | rfl
    · exact Heap.lt_size (Heap.get?_push_size _ rfl)
    · exact Nat.lt_trans plt (Heap.lt_size (Heap.get?_push_size _ rfl))
  · obtain ⟨t, rfl⟩ := val _ _ hv
    refine ⟨.int (jc ns), H, ?_, ⟨t, by rw [hl]; rfl⟩, q⟩
    exact I.kept (h' := h') (t' := tk) fun b u e => hk b u (by simp; exact Nat.ne_of_lt (Heap.lt_size e)) (Heap.get?_push_of_some _ e)
noncomputable def mR : List D -> Hh -> R D := fun ds h => match ds with
  | [.tup es] => (match intsOf es with
    | some ns => if 0 < ns.length then .ok (.int (jc ns)) h else .bad
    | none => .bad)
  | ds => xf ds h
noncomputable abbrev Am (K : PySem.W.Frag) : List V -> Hp -> VK -> Prop := fun vs H Q => (∃ (p : Addr) (ns : List Int), vs = [.ref p] /\ SqT K H p (ns.map V.int) /\ 0 < ns.length /\ Q (.int (jc ns)) H) \/ (∃ (p : Addr) (ns : List Int), vs = [.ref p] /\ SqL K H p (ns.map V.int) /\ 0 < ns.length /\ Q (.int (jc ns)) H)
theorem xI (hc : X.calm = true) : bO X (.builtin "max") (Am X.K) := bO.or (x8 hc) (x_ hc)
theorem BK : lQ K g ε mR (Am K) := by
  intro α H h a x Q r ra w
  unfold mR at w
  split at w
  · rename_i es
    cases ra with
    | cons rd rr =>
      cases rr
      cases rd with
      | tup hq rs =>
        cases e2 : intsOf es with
        | none => rw [e2] at w; exact w.elim
        | some ns =>
          rw [e2] at w
          obtain ⟨hl, w⟩ := WQ.e_ w
          have e3 := dy e2
          subst e3
          rw [rs.qT] at hq
          exact .inl ⟨_, ns, rfl, SqT.of hq, hl, aX.now w r (.int _)⟩
  · exact .inr (CI α H h a x Q r ra w)
end
section
variable {h : Hh}
theorem FJ {ns : List Int} (hp : 0 < ns.length) : mR [.tup (ns.map D.int)] h = .ok (.int (jc ns)) h := by
  delta mR; dsimp only; rw [fX]; exact if_pos hp
end
end L2.FE
namespace L2
open PySem PySem.Spec PyProof.Rows
theorem q_ : ∀ (names : List (Str × NameKind)) (n : Nat) (h : Heap) (acc : List (Str × Addr)), names.filter (fun y => y.2 == .cell) = [] -> cellsFrom n names acc = acc /\ pushCells h names = h
  | [], n, h, acc, _ => ⟨rfl, rfl⟩
  | (m, k) :: r, n, h, acc, e => by
    unfold cellsFrom pushCells
    cases hk : k == NameKind.cell with
    | true => rw [List.filter_cons] at e; simp [hk] at e
    | false =>
      rw [List.filter_cons] at e
      simp only [hk, Bool.false_eq_true, if_false] at e ⊢
      exact q_ r n h acc e
theorem rB {x : Str} : ∀ (names : List (Str × NameKind)) (n : Nat) (h : Heap) (acc : List (Str × Addr)), names.filter (fun y => y.2 == .cell) = [(x, .cell)] -> cellsFrom n names acc = (x, n) :: acc /\ pushCells h names = h.push { cls := .type "cell", data := .cell none }
  | [], n, h, acc, e => by cases e
  | (m, k) :: r, n, h, acc, e => by
    unfold cellsFrom pushCells
    cases hk : k == NameKind.cell with
    | true =>
      rw [List.filter_cons] at e
      simp only [hk, if_true] at e ⊢
      obtain ⟨e1, e2⟩ := List.cons.inj e
      cases e1
      exact q_ r (n + 1) _ _ e2
    | false =>
      rw [List.filter_cons] at e
      simp only [hk, Bool.false_eq_true, if_false] at e ⊢
      exact rB r n h acc e
theorem CF {M : Model} {A : Around} {E : Value -> Shared -> Prop} {s : Shared} {scope : Scope} {globals : Addr} {cl : List (Str × Addr)} {qual : Str} {outer : Env} {builtins : Addr} {x : Str} {Q : Env -> Shared -> Prop}
    (hc : scope.names.filter (fun y => y.2 == .cell) = [(x, .cell)]) (hk : scope.kind = .function)
    (hQ : ∀ h' : Heap, h'.Ns s.heap.objs.size (fun _ => none) -> h'.IsCell (s.heap.objs.size + 1) none -> (∀ b o, s.heap.get? b = some o -> h'.get? b = some o) →
      Q (newEnv scope s.heap.objs.size globals ((x, s.heap.objs.size + 1) :: cl) qual none .none (some outer) builtins) { s with heap := h' }) :
    wpAny M A (newFunctionEnv scope globals cl [] qual none .none (some outer) builtins) Q E s := by
  simp only [newFunctionEnv, Option.isSome_some, if_true]
  refine wpAny_bind (wpAny_alloc ?_)
  refine wpAny_bind (wpAny_layCells _ (fun name kind cells => by cases hkc : kind == NameKind.cell <;> simp [hkc]) _ _ _ _ ?_)
  obtain ⟨e1, e2⟩ := rB scope.names (s.heap.objs.size + 1) (s.heap.push { cls := .type "dict", data := .dict #[] }) cl hc
  rw [show ({ s with heap := s.heap.push { cls := .type "dict", data := .dict #[] } } : Shared).heap.objs.size = s.heap.objs.size + 1 from Heap.size_push ..]
  rw [e1]
  dsimp only
  rw [e2]
  refine wpAny_bind ?_
  rw [List.forIn_nil]
  refine wpAny_pure (wpAny_pure ?_)
  refine hQ _ ((Heap.Ns.new s.heap (.type "dict")).keeps fun b o e => Heap.get?_push_of_some _ e) ⟨{ cls := .type "cell", data := .cell none }, ?_, rfl⟩ (fun b o e => Heap.get?_push_of_some _ (Heap.get?_push_of_some _ e))
  have := Heap.get?_push_size (s.heap.push { cls := .type "dict", data := .dict #[] }) (o := { cls := .type "cell", data := .cell none }) rfl
  rw [Heap.size_push] at this
  exact this
theorem fB {env : Env} : ∀ {names : List (Str × NameKind)} {x : Str}, names.lookup x = some .cell →
    (names.map fun (n, k) => if (k == NameKind.free && env.scope.kind == .function && env.kindOf n == some .cell) then (n, NameKind.cell) else (n, k)).lookup x = some .cell
  | [], _, h => by simp at h
  | (n, k) :: r, x, h => by
    have ih := @fB env r x
    show List.lookup x ((if (k == NameKind.free && env.scope.kind == .function && env.kindOf n == some .cell) = true then (n, NameKind.cell) else (n, k)) :: _) = _
    cases hx : x == n with
    | true =>
      simp only [List.lookup_cons, hx] at h
      cases h
      simp [List.lookup_cons, hx]
    | false =>
      simp only [List.lookup_cons, hx] at h
      by_cases hc : (k == NameKind.free && env.scope.kind == .function && env.kindOf n == some .cell) = true
      · rw [if_pos hc]; simp only [List.lookup_cons, hx]; exact ih h
      · rw [if_neg hc]; simp only [List.lookup_cons, hx]; exact ih h
noncomputable def pZ (scope : Scope) (cl : List (Str × Addr)) (C : Addr) (env : Env) (x : Str) : Env :=
  { scope := relabel scope env, locals := C, globals := env.globals, cells := (x, C + 1) :: cl, qual := env.qual, func := none, code := env.code, frame := env.frame, builtins := env.builtins }
noncomputable def lC (X : Cx) (scope : Scope) (cl : List (Str × Addr)) (C : Addr) (ay : Shared) (aB : Hp) (fp : List Addr) (N' : List Str) (x : Str) : Cx :=
  { X with N := N', ay := ay, aB := aB, env := pZ scope cl C X.env x, outer := X.stack, ex := fp, fn := fun y => y == x, pn := [] }
theorem AJ {X : Cx} {elt iter : Expr} {x : Str} {px : Pos} {ifs : List Expr} {scope osc : Scope} {pos : Pos} {wi : TI} {tt : TT} {te : TE} (ix : List Nat) (N' : List Str)
    (hxe : X.xe = fun _ _ => False) (hc : X.calm = true) (ho : X.env.scope = osc) (hN : N' = x :: ix.map fun i => (X.N[i]?).getD x) (hnd : N'.Nodup)
    (hall : (∀ y ∈ scope.names, y.2 = .free -> osc.names.lookup y.1 = some .cell) /\ scope.names.filter (fun y => y.2 == .cell) = [(x, .cell)] /\ scope.kind = .function /\ (∀ y ∈ scope.names, y.2 = .local -> scope.names.lookup y.1 = some .local) /\ scope.names.lookup x = some .cell /\ (∀ y ∈ N'.tail, scope.names.lookup y = some .free))
    (hi : PI X (.Name x px) iter wi)
    (ht : ∀ cl C ay aB fp, PTs (lC X scope cl C ay aB fp N' x) ifs tt)
    (he : ∀ cl C ay aB fp, PE (lC X scope cl C ay aB fp N' x) elt te)
    (hs : ∀ x, foldedSetIterable iter X.env x = pure x := by intro _; rfl) :
    PE X (.ListComp elt [⟨.Name x px, iter, ifs, 0⟩] scope pos) (zI wi ix tt te) := by
  intro pins s σ H Q I h
  obtain ⟨hfr, hcell, hkind, hnames, hx, hcap⟩ := hall
  subst ho
  have outc : ∀ y ∈ scope.names, y.2 = .free -> X.env.kindOf y.1 = some .cell := fun y hy q => hfr y hy q
  obtain ⟨cl, hclos, hcl1, hcl2⟩ := gK (env := X.env) (scope := scope) fun y hy q => I.ok.has y.1 (.inl (outc y hy q))
  rw [eval_ListComp]
  refine wpAny_comprehension_free (use := none) rfl hs hclos hkind hnames (thn (hi pins s σ H _ I h) fun v s1 h1 => thn h1 fun itv s2 h2 => ?_)
  obtain ⟨it, fp, tn, J, H2, e, I2, T, st2, f2, rest⟩ := h2
  subst e
  have hf2 : H2 s2.heap.objs.size = none := I2.hok.fresh (Nat.le_refl _)
  obtain ⟨W, ⟨m0, w0⟩, turn⟩ := rest s2.heap.objs.size hf2
  -- the list
  refine wpAny_newObj_type ?_
  have I3 : Inv X pins σ (upd H2 s2.heap.objs.size (.lst [])) { s2 with heap := s2.heap.push { cls := .type "list", dict := none, data := .seq ([] : List Value).toArray } } := I2.zp (its := []) (t' := s2.toks) .nil (Nat.zero_le _)
  have keep3 : ∀ b o, s2.heap.get? b = some o -> (s2.heap.push { cls := .type "list", dict := none, data := .seq ([] : List Value).toArray }).get? b = some o := fun b o q => Heap.get?_push_of_some _ q
  have fp3 : ∀ b ∈ fp, ∃ o, s2.heap.get? b = some o /\ ∀ v, o.data ≠ .cell v := T.obj _ _ st2
  have st3 : tn 0 (s2.heap.push { cls := .type "list", dict := none, data := .seq ([] : List Value).toArray }) := T.keep _ _ _ st2 fun b _ o q => keep3 b o q
  have fpn : ∀ b ∈ fp, (upd H2 s2.heap.objs.size (HO.lst [])) b = none := fun b hb => by
    obtain ⟨o, q, _⟩ := fp3 b hb
    rw [aW (Nat.ne_of_lt (Heap.lt_size q))]
    exact (f2 b hb).1
  revert I3 keep3 st3 fpn w0
  generalize hS3 : ({ s2 with heap := s2.heap.push { cls := .type "list", dict := none, data := .seq ([] : List Value).toArray } } : Shared) = s3
  generalize hH3 : upd H2 s2.heap.objs.size (HO.lst []) = H3
  intro w0 I3 keep3 st3 fpn
  have acc3 : H3 s2.heap.objs.size = some (.lst []) := by rw [<- hH3]; exact aY
  generalize s2.heap.objs.size = acc at *
  have e3 : s2.heap.push { cls := .type "list", dict := none, data := .seq ([] : List Value).toArray } = s3.heap := by rw [<- hS3]
  have keep3' : ∀ b o, s2.heap.get? b = some o -> s3.heap.get? b = some o := fun b o q => by rw [<- e3]; exact keep3 b o q
  have st3' : tn 0 s3.heap := by rw [<- e3]; exact st3
  refine CF hcell hkind (fun h₁ hns₁ hce₁ keep4 => ?_)
  have hC : s3.heap.objs.size = s3.heap.objs.size := rfl
  have fpC : ∀ b ∈ fp, b ≠ s3.heap.objs.size := fun b hb => by
    obtain ⟨o, q, _⟩ := fp3 b hb
    exact Nat.ne_of_lt (Heap.lt_size (keep3' b o q))
  have fpL : ∀ b ∈ fp, b ≠ s3.heap.objs.size + 1 := fun b hb => by
    obtain ⟨o, q, _⟩ := fp3 b hb
    exact Nat.ne_of_lt (Nat.lt_succ_of_lt (Heap.lt_size (keep3' b o q)))
  have cel : ∀ y c, ((x, s3.heap.objs.size + 1) :: cl).lookup y = some c -> (y = x /\ c = s3.heap.objs.size + 1) \/ (y ≠ x /\ cl.lookup y = some c) := fun y c p => by
    rw [List.lookup_cons] at p
    cases hy : y == x with
    | true => rw [hy] at p; cases p; exact .inl ⟨by simpa using hy, rfl⟩
    | false => rw [hy] at p; exact .inr ⟨by simpa using hy, p⟩
  have clt : ∀ y c, cl.lookup y = some c -> c < s3.heap.objs.size := fun y c p => by
    obtain ⟨v, o, q1, _⟩ := I3.cell y c (hcl1 y c p)
    exact Heap.lt_size q1
  have hxl : ((x, s3.heap.objs.size + 1) :: cl).lookup x = some (s3.heap.objs.size + 1) := by simp [List.lookup_cons]
  have hol : ∀ y, y ≠ x -> ((x, s3.heap.objs.size + 1) :: cl).lookup y = cl.lookup y := fun y hy => by
    have : (y == x) = false := by simpa using hy
    rw [List.lookup_cons, this]
  -- the block's context
  generalize hX' : lC X scope cl s3.heap.objs.size s3 H3 fp N' x = X'
  have hXp : X'.prog = X.prog := by rw [<- hX']; rfl
  have hXw : X'.w = X.w := by rw [<- hX']; rfl
  have hXK : X'.K = X.K := by rw [<- hX']; rfl
  have hXA : X'.A = X.A := by rw [<- hX']; rfl
  have hXe : X'.env = pZ scope cl s3.heap.objs.size X.env x := by rw [<- hX']; rfl
  have hXc : X'.calm = true := by rw [<- hX']; exact hc
  have hXx : X'.xe = fun _ _ => False := by rw [<- hX']; exact hxe
  have hXf : X'.fs = frs X.stack := by rw [<- hX']; rfl
  have hXex : X'.ex = fp := by rw [<- hX']; rfl
  have hXN : X'.N = N' := by rw [<- hX']; rfl
  have hXs : X'.ay = s3 := by rw [<- hX']; rfl
  have hXH : X'.aB = H3 := by rw [<- hX']; rfl
  have hXpn : X'.pn = [] := by rw [<- hX']; rfl
  have okX : X'.Ok := by
    rw [<- hX']
    refine ⟨I3.ok.mod, hkind, I3.ok.glob, I3.ok.blt, Nat.le_refl _, fun a b c p q => ?_, fun y hy => ?_, fun y c z p => ?_, I3.ok.hd, I3.ok.frames, .inl rfl, fun b hb => ⟨fpC b hb, fun y c p => ?_⟩,
      I3.bs, Nat.le_trans I3.ok.bsz I3.sz, fun b o p hb => ?_, fun b hb z => ?_, I3.stack, I3.nU⟩
    · rcases cel a c p with ⟨a1, a2⟩ | ⟨a1, a2⟩ <;> rcases cel b c q with ⟨b1, b2⟩ | ⟨b1, b2⟩
      · rw [a1, b1]
      · exact absurd (clt b c b2) (by rw [a2]; exact Nat.not_lt.mpr (Nat.le_succ _))
      · exact absurd (clt a c a2) (by rw [b2]; exact Nat.not_lt.mpr (Nat.le_succ _))
      · exact I3.ok.inj a b c (hcl1 a c a2) (hcl1 b c b2)
    · by_cases yx : y = x
      · exact ⟨_, by rw [yx]; exact hxl⟩
      show ∃ c, ((x, s3.heap.objs.size + 1) :: cl).lookup y = some c
      rw [hol y yx]
      have hy' : (relabel scope X.env).names.lookup y = some .cell \/ (relabel scope X.env).names.lookup y = some .free := hy
      have free : scope.names.lookup y = some .free -> ∃ c, cl.lookup y = some c := fun q => hcl2 y (lookup_mem q)
      rcases hy' with q | q
      · rcases cU q with z | ⟨z, _⟩
        · have m : (y, NameKind.cell) ∈ scope.names.filter (fun y => y.2 == .cell) := List.mem_filter.mpr ⟨lookup_mem z, rfl⟩
          rw [hcell] at m
          simp only [List.mem_singleton] at m
          cases m
          exact absurd rfl yx
        · exact free z
      · rcases cU q with z | ⟨_, z⟩
        · exact free z
        · cases z
    · rcases cel y c p with ⟨_, e⟩ | ⟨yx, _⟩
      · rw [e]; exact Nat.le_succ _
      · have z' : (y == x) = true := z
        exact absurd (by simpa using z') yx
    · rcases cel y c p with ⟨_, e⟩ | ⟨_, e⟩
      · rw [e]; exact (fpL b hb).symm
      · exact (f2 b hb).2.2.2.2.1 y c (hcl1 y c e)
    · rcases (f2 b hb).2.2.2.1 with z | z
      · exact I3.ok.vB b o p z
      · exact absurd (Nat.lt_of_lt_of_le (Heap.lt_size p) (Nat.le_trans I3.ok.bsz z)) (Nat.lt_irrefl _)
    · rcases List.mem_cons.mp (I3.jq b z) with q | q
      · exact (f2 b hb).2.1 q
      · exact (f2 b hb).2.2.1 q
  have I4 : ∀ tk, Inv X' [] (fA ix σ) H3 { s3 with heap := h₁, toks := tk } := fun tk => by
    have hloc := I3.loc
    refine ⟨okX, by rw [hXs], I3.bare, ?_, ⟨fun _ => none, by rw [hXe]; exact hns₁, fun i y v e1 e2 e3 => ?_⟩, fun y c p => ?_, ?_, fun y c p => ?_, fun p hp => ?_, ?_, ?_⟩
    · rw [hXf, hXex, hXH, hXs]; exact Un.kept keep4
    · rw [hXN, hN] at e1
      cases i with
      | zero => simp [fA] at e2
      | succ j =>
        have e1' : (ix.map fun i => (X.N[i]?).getD x)[j]? = some y := by simpa using e1
        have e2' : (ix.map fun i => (σ[i]?).join)[j]? = some (some v) := by simpa [fA] using e2
        rw [List.getElem?_map] at e1' e2'
        cases hj : ix[j]? with
        | none => rw [hj] at e1'; cases e1'
        | some i0 =>
          rw [hj] at e1' e2'
          have e1'' : (X.N[i0]?).getD x = y := by simpa using e1'
          have e2'' : (σ[i0]?).join = some v := by simpa using e2'
          have hsv : σ[i0]? = some (some v) := by
            cases q : σ[i0]? with
            | none => rw [q] at e2''; cases e2''
            | some z => rw [q] at e2''; have : z = some v := by simpa using e2''
                        rw [this]
          have hlt : i0 < X.N.length := by
            have := (List.getElem?_eq_some_iff.mp hsv).1
            rw [I3.len] at this; exact this
          have hNy : X.N[i0]? = some y := by
            rw [List.getElem?_eq_getElem hlt] at e1'' ⊢
            simpa using e1''
          have hyt : y ∈ N'.tail := by
            rw [hN]
            exact List.mem_of_getElem? (by simpa using e1)
          have hyf := hcap y hyt
          have hyc := outc (y, .free) (lookup_mem hyf) rfl
          obtain ⟨m, hn, hl⟩ := hloc
          obtain ⟨u, r, l⟩ := hl i0 y v hNy hsv (.inr (.inl hyc))
          refine ⟨u, r, ?_⟩
          rcases l with ⟨k1, _⟩ | ⟨_, c, p, z⟩
          · have hyc' : X.env.kindOf y = some .cell := hyc
            rw [k1] at hyc'; cases hyc'
          · obtain ⟨c', p'⟩ := hcl2 y (lookup_mem hyf)
            have pc : c' = c := by
              have := hcl1 y c' p'
              rw [p] at this; cases this; rfl
            subst pc
            have hxn : x ∉ N'.tail := by
              have nd := hnd
              rw [hN] at nd ⊢
              exact (List.nodup_cons.mp nd).1
            have yx : y ≠ x := fun z => hxn (z ▸ hyt)
            refine .inr ⟨.inl ?_, c', by rw [hXe]; exact (hol y yx).trans p', ?_⟩
            · rw [hXe]; exact cM I3.ok.kind hyf hyc
            · obtain ⟨o, q1, q2⟩ := z
              exact ⟨o, keep4 c' o q1, q2⟩
    · rw [hXe] at p
      rcases cel y c p with ⟨_, e⟩ | ⟨_, e⟩
      · rw [e]; exact ⟨none, hce₁⟩
      · obtain ⟨v, o, q1, q2⟩ := I3.cell y c (hcl1 y c e)
        exact ⟨v, o, keep4 c o q1, q2⟩
    · rw [hXe]; exact I3.hok.fresh (Nat.le_refl _)
    · rw [hXe] at p
      rcases cel y c p with ⟨_, e⟩ | ⟨_, e⟩
      · rw [e]; exact I3.hok.fresh (Nat.le_succ _)
      · exact I3.iS y c (hcl1 y c e)
    · rw [hXpn] at hp; cases hp
    · rw [hXp, hXw]; exact I3.hok.kept keep4
    · rw [hXN, hN]; simp [fA]
  -- the loop
  have stat : ∀ {H' : Hp}, (∀ b ∈ fp, H' b = none) -> ∀ b ∈ fp, kZ X' [] H' b := fun hn b hb => by
    refine ⟨hn b hb, by rw [hXe]; exact fpC b hb, ?_, .inl (by rw [hXex]; exact hb), fun y c p => ?_, fun p hp => by rw [hXpn] at hp; cases hp⟩
    · rw [hXf]; intro z
      rcases List.mem_cons.mp (I3.jq b z) with q | q
      · exact (f2 b hb).2.1 q
      · exact (f2 b hb).2.2.1 q
    · rw [hXe] at p
      rcases cel y c p with ⟨_, e⟩ | ⟨_, e⟩
      · rw [e]; exact (fpL b hb).symm
      · exact (f2 b hb).2.2.2.2.1 y c (hcl1 y c e)
  have fin : ∀ {H5 : Hp} {s5 : Shared} {σ5 : St}, Inv X' [] σ5 H5 s5 -> Q (.ref acc) H5 -> compPost (model X.prog X.w) X.A X.xe none (EP X pins σ Q) (.ref acc) s3.heap.objs.size (.ok .next) s5 := fun {H5 s5 σ5} I5 q => by
    obtain ⟨m, hn, _⟩ := I5.loc
    rw [hXe] at hn
    refine ⟨m, hn, fun h' sb => ?_⟩
    have kb : ∀ b o, b ≠ s3.heap.objs.size -> s5.heap.get? b = some o -> h'.get? b = some o := fun b o hb z => sb.extBut b o hb z
    have u5 := I5.base
    rw [hXf, hXex, hXH, hXs] at u5
    have nC : ∀ b o, s3.heap.get? b = some o -> b ≠ s3.heap.objs.size := fun b o z => Nat.ne_of_lt (Heap.lt_size z)
    have un : Un (frs X.stack) fp H3 H5 s3.heap h' := ⟨fun b o z n a c => kb b o (nC b o z) (u5.keep b o z n a c), fun b o z n a c => by
      obtain ⟨sl, y⟩ := u5.slot b o z n a c
      exact ⟨sl, kb b _ (nC b o z) y⟩, u5.free, fun b o z c => by
      obtain ⟨o', y⟩ := u5.there b o z c
      exact ⟨o', kb b _ (nC b o z) y⟩, u5.qo, u5.pW, u5.qx⟩
    have fr : H5 s3.heap.objs.size = none := by have := I5.free; rw [hXe] at this; exact this
    have hok5 := I5.hok
    rw [hXp, hXw] at hok5
    have hos : s5.os = s3.os := by have := I5.os; rw [hXs] at this; exact this
    refine ⟨.ref acc, H5, I3.rh (s' := { s5 with heap := h' }) (ch := fp) hos un (hok5.sameBut fr kb) I5.bare (fun b hb => ?_), rfl, q⟩
    obtain ⟨g0, g1, g2, g3, g4, g5⟩ := f2 b hb
    exact ⟨g3, g1, g4, g5⟩
  have loop : ∀ tk, codeAny (model X.prog X.w) X.A (.compLoop (.ListComp elt [⟨.Name x px, iter, ifs, 0⟩] scope pos) 0 (.ref it) (.ref acc) (pZ scope cl s3.heap.objs.size X.env x))
      (compPost (model X.prog X.w) X.A X.xe none (EP X pins σ Q) (.ref acc) s3.heap.objs.size) { s3 with heap := h₁, toks := tk } := fun tk => by
    refine mU (fun n s' => ∃ i ys σ' H', Inv X' [] σ' H' s' /\ (∃ v, σ' = (fA ix σ).set 0 v) /\ tn i s'.heap /\ (∀ b ∈ fp, H' b = none) /\ W i n ys H') (fun n s5 h5 => ?_) m0
      ⟨0, [], fA ix σ, H3, I4 tk, ⟨none, rfl⟩, T.keep _ _ _ st3' fun b _ o q => keep4 b o q, fpn, w0⟩
    obtain ⟨i, ys, σ5, H5, I5, ⟨v5, hσ⟩, st5, fr5, w5⟩ := h5
    rcases turn i n ys H5 w5 with ⟨stop, q⟩ | ⟨go, step⟩
    · have d := T.done X' hXp hXw hXK hXc i [] s5 σ5 H5 (fun _ _ => False) I5 (stat fr5) st5 stop
      rw [hXA] at d
      refine thn d fun r s6 ⟨hr, I6⟩ => ?_
      subst hr
      exact fin I6 q
    · have d := T.item X' hXp hXw hXK hXc i [] s5 σ5 H5 (fun _ _ => False) I5 (stat fr5) st5 go
      rw [hXA] at d
      refine thn d fun r s6 ⟨u, hr, h6⟩ => ?_
      subst hr
      refine thn h6 fun _ s7 ⟨z, H7, I7, r7, y7, st7, fr7⟩ => ?_
      have I7' := I7.pinned (stat fr7) (T.obj _ _ st7)
      have again : ∀ {H9 : Hp} {s9 : Shared} {ys9 : List V} {v9 : Option V}, Inv X' ([] ++ ib fp s7.heap) ((fA ix σ).set 0 v9) H9 s9 -> (∃ m', m' < n /\ W (i + 1) m' ys9 H9) -> ∃ m', m' < n /\ ∃ i ys σ' H', Inv X' [] σ' H' s9 /\ (∃ v, σ' = (fA ix σ).set 0 v) /\ tn i s9.heap /\ (∀ b ∈ fp, H' b = none) /\ W i m' ys H' := fun {H9 s9 ys9 v9} I9 ⟨m', hm, w9⟩ => by
        refine ⟨m', hm, i + 1, ys9, _, H9, I9.fJ, ⟨v9, rfl⟩, T.keep _ _ _ st7 fun b hb o e => (I9.pin (b, o) (List.mem_append_right _ (List.mem_append_right _ (cJ hb e)))).1, fun b hb => ?_, w9⟩
        obtain ⟨o, e, _⟩ := T.obj _ _ st7 b hb
        exact (I9.pin (b, o) (List.mem_append_right _ (List.mem_append_right _ (cJ hb e)))).2.1
      have es : σ5.set 0 (some z) = (fA ix σ).set 0 (some z) := by rw [hσ]; simp [List.set_set]
      have ht' := ht cl s3.heap.objs.size s3 H3 fp
      have he' := he cl s3.heap.objs.size s3 H3 fp
      rw [hX'] at ht' he'
      rw [<- hXe]
      refine wpAny_assign_Name (gY (X := X') (i := 0) I7' (by rw [hXN]; exact hnd) (by rw [hXN, hN]; rfl) (.inr ?_) r7 (fun s8 I8 => ?_) (.inl ?_))
      · rw [hXe]; exact fB hx
      · rw [es] at I8
        have a1 := ht' _ s8 _ H7 _ I8 (step z H7 y7)
        rw [hXp, hXw, hXA, hXx] at a1
        refine thn a1 fun b s9 ⟨H9, I9, q9⟩ => ?_
        cases b with
        | false => exact again I9 q9
        | true =>
          have a2 := he' _ s9 _ H9 _ I9 q9
          rw [hXp, hXw, hXA, hXx] at a2
          refine thn a2 fun yv s10 ⟨y, H10, I10, r10, q1, q2, q3⟩ => ?_
          have a3 := fG (X := X') _ s10 _ H10 (.ref acc) [y] (.ref acc) [yv] (fun _ Hq => ∃ m', m' < n /\ W (i + 1) m' (ys ++ [y]) Hq) I10 rfl (.cons r10 .nil) ⟨acc, ys, y, rfl, rfl, q1, q2, q3⟩
          rw [hXp, hXw, hXA, hXx] at a3
          exact thn a3 fun _ s11 ⟨_, H11, I11, _, q11⟩ => again I11 q11
      · rw [<- hX']; exact beq_self_eq_true x
  refine codeAny_compStart_list (loop _) ?_
  exact T.self _ 0 _ _ _ (T.keep _ _ _ st3' fun b _ o q => keep4 b o q) (loop _)
end L2
namespace L2.FE
open PySem PySem.Spec PyProof.Rows
variable {X : Cx} {g : GG}
theorem ug {nl : NL} [iN nl] {elt iter : Expr} {x : Str} {px : Pos} {ifs : List Expr} {scope osc : Scope} {pos : Pos} {mi : MI} {tt : MT} {te : ME} (ix : List Nat) (N' : List Str)
    (hxe : X.xe = fun _ _ => False) (hc : X.calm = true) (ho : X.env.scope = osc) (hN : N' = x :: ix.map fun i => (X.N[i]?).getD x) (hnd : N'.Nodup)
    (hall : (∀ y ∈ scope.names, y.2 = .free -> osc.names.lookup y.1 = some .cell) /\ scope.names.filter (fun y => y.2 == .cell) = [(x, .cell)] /\ scope.kind = .function /\ (∀ y ∈ scope.names, y.2 = .local -> scope.names.lookup y.1 = some .local) /\ scope.names.lookup x = some .cell /\ (∀ y ∈ N'.tail, scope.names.lookup y = some .free))
    (hi : PI X (.Name x px) iter (tMI X.K g E00 mi))
    (ht : ∀ cl C ay aB fp, PTs (lC X scope cl C ay aB fp N' x) ifs (tMT X.K g E00 tt))
    (he : ∀ cl C ay aB fp, PE (lC X scope cl C ay aB fp N' x) elt (tM X.K g E00 te))
    (hs : ∀ x, foldedSetIterable iter X.env x = pure x := by intro _; rfl) :
    PE X (.ListComp elt [⟨.Name x px, iter, ifs, 0⟩] scope pos) (tM X.K g E00 (bP nl mi ix tt te)) := by
  exact PE.imp (PE.frz (AJ ix N' hxe hc ho hN hnd hall hi ht he hs)) fun σ H Q t => oM (fun _ _ z => z) t
theorem xq {K : PySem.W.Frag} {ε : EE} {mi : MI} {ix : List Nat} {tt : TT} {te : TE} {σ : St} {H : Hp} {Q : VK} (t : zI (tMI K g ε mi) ix tt te σ H Q) : o7 (tMI K g ε mi) 1 ix (eA 0) tt te σ H Q := by
  obtain ⟨α, env, h, s, w⟩ := t
  refine ⟨α, env, h, s, w.mono fun sr h1 _ z J H' α' e hr rd acc ha => ?_⟩
  obtain ⟨W, w0, st⟩ := z J H' α' e hr rd acc ha
  refine ⟨W, w0, fun i m ys H1 hw => (st i m ys H1 hw).imp id fun ⟨a, b⟩ => ⟨a, fun σ0 x H2 hc hy => ?_⟩⟩
  obtain ⟨ts, tl, rfl⟩ := hc
  match ts, tl with
  | [t0], _ => exact ⟨⟨[some x], rfl, rfl⟩, b x H2 hy⟩
theorem fc {nl : NL} [iN nl] {elt iter : Expr} {x : Str} {px : Pos} {ifs : List Expr} {scope osc : Scope} {pos : Pos} {mi : MI} {tt : MT} {te : ME} (ix : List Nat) (N' : List Str)
    (hxe : X.xe = fun _ _ => False) (hc : X.calm = true) (ho : X.env.scope = osc) (hN : N' = x :: ix.map fun i => (X.N[i]?).getD ("" : Str)) (hnd : N'.Nodup)
    (hall : (∀ y ∈ scope.names, y.2 = .free -> osc.names.lookup y.1 = some .cell) /\ (∀ y ∈ scope.names, y.2 ≠ .cell) /\ scope.kind = .function /\ (∀ y ∈ scope.names, y.2 = .local -> scope.names.lookup y.1 = some .local) /\ scope.names.lookup x = some .local /\ (∀ y ∈ N'.tail, scope.names.lookup y = some .free))
    (hi : PI X (.Name x px) iter (tMI X.K g E00 mi))
    (ht : ∀ cl C ay aB fp, PTs (bf X scope cl C ay aB fp N') ifs (tMT X.K g E00 tt))
    (he : ∀ cl C ay aB fp, PE (bf X scope cl C ay aB fp N') elt (tM X.K g E00 te))
    (hs : ∀ x, foldedSetIterable iter X.env x = pure x := by intro _; rfl) :
    PE X (.ListComp elt [⟨.Name x px, iter, ifs, 0⟩] scope pos) (tM X.K g E00 (bP nl mi ix tt te)) := by
  refine PE.imp (PE.frz (ur (tgr := eA 0) ix [x] N' hxe hc ho hN hnd ⟨hall.1, hall.2.1, hall.2.2.1, hall.2.2.2.1, fun y hy => hall.2.2.2.2.2 y (by rw [hN] at hy ⊢; exact hy)⟩ hi (fun cl C ay aB fp => bw (X := bf X scope cl C ay aB fp N') hnd (show N'[0]? = some x by rw [hN]; rfl) (.inl (lookup_relabel_local hall.2.2.2.2.1)) (.inr (lookup_relabel_local hall.2.2.2.2.1))) ht he hs)) fun σ H Q t => ?_
  exact xq (oM (fun _ _ z => z) t)
theorem o8 {nl : NL} [iN nl] {elt iter : Expr} {x z : Str} {px pz : Pos} {ifs : List Expr} {scope osc : Scope} {pos spos : Pos} {mi : MI} {tt : MT} {te : ME} {i : Nat} (ix : List Nat) (N' : List Str)
    (hxe : X.xe = fun _ _ => False) (hc : X.calm = true) (ho : X.env.scope = osc) (hN : N' = x :: ix.map fun i => (X.N[i]?).getD ("" : Str)) (hnd : N'.Nodup)
    (hall : (∀ y ∈ scope.names, y.2 = .free -> osc.names.lookup y.1 = some .cell) /\ (∀ y ∈ scope.names, y.2 ≠ .cell) /\ scope.kind = .function /\ (∀ y ∈ scope.names, y.2 = .local -> scope.names.lookup y.1 = some .local) /\ scope.names.lookup x = some .local /\ (∀ y ∈ N'.tail, scope.names.lookup y = some .free))
    (hi : PI X (.Name x px) iter (tMI X.K g E00 mi))
    (ht : ∀ cl C ay aB fp, PTs (bf X scope cl C ay aB fp N') ifs (tMT X.K g E00 tt))
    (he : ∀ cl C ay aB fp, PE (bf X scope cl C ay aB fp N') elt (tM X.K g E00 te))
    (hNN : X.N.Nodup) (hz : X.N[i]? = some z) (hl : X.env.scope.names.lookup z = some .local := by rfl)
    (hsw : swapsWith (.ListComp elt [⟨.Name x px, iter, ifs, 0⟩] scope pos) (some (.Name z pz)) spos.line X.env = pure true := by rfl)
    (hs : ∀ x, foldedSetIterable iter X.env x = pure x := by intro _; rfl) :
    PS X (.Assign [.Name z pz] (.ListComp elt [⟨.Name x px, iter, ifs, 0⟩] scope pos) spos) (tMS X.K g E00 (bC i (bP nl mi ix tt te))) := by
  refine PS.imp (PS.frz (uy (tgr := eA 0) ix [x] N' hxe hc ho hN hnd ⟨hall.1, hall.2.1, hall.2.2.1, hall.2.2.2.1, fun y hy => hall.2.2.2.2.2 y (by rw [hN] at hy ⊢; exact hy)⟩ hi (fun cl C ay aB fp => bw (X := bf X scope cl C ay aB fp N') hnd (show N'[0]? = some x by rw [hN]; rfl) (.inl (lookup_relabel_local hall.2.2.2.2.1)) (.inr (lookup_relabel_local hall.2.2.2.2.1))) ht he hNN hz hl hsw hs)) fun E σ H ⟨α, env, h, s, w⟩ => xq (oM (nl := nl) (Q := fun v H1 => E.nx (σ.set i (some v)) H1) (fun v H1 z => CW z) (tM.use s w.bind fun d1 h1 v1 H1 α1 e1 s1 r1 w1 => (show cY X.K g α H E (.nx (env.set i (some d1))) h1 from w1) H1 α1 e1 s1.heap _ (s1.vs.set r1)))
end L2.FE
namespace FC
open PySem L2 L2.FE
noncomputable def b_ : MF := b8 2 (aG (dA (aI asB (ao dLt (ag 1) (ah bF (aa (ag 0) ak)))) (br (ao dIx (ag 0) (ag 1))) bX)
    (br (cC (.int 0))))
noncomputable def cG : MF := b8 2 (aG (bC 1 (ah Av (aa (ag 0) (aa (ao fq (cC (.int 0)) (ag 0)) ak))))
    (br (ah (fo iY) (aa (ag 1) (aa (ah y0 (aa (ao dGe (ag 1) (ao Cv (cC (.int 10)) (cC (.int 18)))) ak)) (aa (ao vd (ag 1) (cC (.int 1000003))) ak))))))
noncomputable def ed : MF := b8 1 (aG (bC 0 (ao vd (ao (bB aC) (ag 0) (cC (.int 7919))) (cC (.int 2147483647))))
    (br (ao vd (ao (bB aC) (ao (bB aC) (ao (f7 aC) (ag 0) (ag 0)) (ao (f7 aC) (cC (.int 48271)) (ag 0))) (cC (.int 12345))) (cC (.int 2147483629)))))
noncomputable def aM : MF := b8 3 (aG (dA (nY (aI asB (ao dEq (ao dIx (ag 0) (cC (.int 1))) (cC (.int 1)))) (aI asB (ao dGt (ao dIx (ag 0) (cC (.int 0))) (cC (.int 0))))) (aG (bC 2 (ao vd (ao dIx (ag 0) (cC (.int 0))) (ag 1)))
    (aG (eO cF (ag 0) (cC (.int 0)) (ao Aj (ao dIx (ag 0) (cC (.int 0))) (ag 1)))
    (br (ag 2)))) bX)
    (aG (eO cF (ag 0) (cC (.int 2)) (ah ed (aa (ao (bB aC) (ah ed (aa (ao dIx (ag 0) (cC (.int 2))) ak)) (cC (.int 7))) ak)))
    (br (ao vd (ao Aj (ao dIx (ag 0) (cC (.int 2))) (cC (.int 64))) (ag 1)))))
noncomputable def cA : MF := fun ds h => ((b8 3 (aG (bC 2 (ah (gf iY) (aa (ag 1) ak)))
    (br (ah bW (aa (bP aC (dY gq (aa (ag 1) ak)) [2, 0] tt1 (fe tZ (ag 1) (aa (ah aM (aa (ag 2) (aa (ah bF (aa (ag 1) ak)) ak))) ak))) ak))))) ds h).bind (cf h)
noncomputable def fW : MF := b8 1 (br (xa (cUn (tj "int") (ag 0)) (A7 (cUn (tj "bool") (ag 0)))))
noncomputable def bZ : MF := b8 3 (br (xa (ah fW (aa (ag 0) ak)) (kE dLe dLe (ag 1) (ag 0) (ag 2))))
noncomputable def bx : MF := fun ds h => ((b8 2 (aG (dA (lJ (jF (aI om (cUn (tj "tuple") (ag 0)))) (jF (aI asB (kE dLe dLe (cC (.int 1)) (ah bF (aa (ag 0) ak)) (cC (.int 20)))))) (br (cC (.bl false))) bX)
    (aG (eN (dH (ag 0)) (gN 1) (dA (jF (aI om (ah bZ (aa (ag 1) (aa (cC (.int 0)) (aa (ao fq (ah bF (aa (ag 0) ak)) (cC (.int 1))) ak)))))) (br (cC (.bl false))) bX))
    (br (ao dEq (ah bF (aa (ah u4 (aa (ag 0) ak)) ak)) (ah bF (aa (ag 0) ak))))))) ds h).bind (cf h)
noncomputable def aO : MF := b8 1 (dA (jF (aI om (ah bx (aa (ag 0) ak)))) Eh bX)
noncomputable def cH : MF := b8 1 (aG (cb (ah aO (aa (ag 0) ak)))
    (br (ah bW (aa (bP aC (ie (ag 0)) [] (unp (aI asB (ao dGt (ag 1) (ag 0)))) (unp (ag 0))) ak))))
noncomputable def bN : MF := b8 1 (aG (cb (ah aO (aa (ag 0) ak)))
    (br (ah bW (aa (bP aC (ie (ag 0)) [] (unp (aI asB (ao dLt (ag 1) (ag 0)))) (unp (ag 0))) ak))))
noncomputable def dF : MF := gT (fun ds h => ((b8 3 (aG (bC 2 (ah (fo iY) (aa (ag 1) ak)))
    (aG (se 64 (aI asB (ao dNe (ao dIx (ag 0) (ao dIx (ag 2) (cUn jQ (cC (.int 1))))) (ag 1))) (cb (fe du (ag 2) (aa (ao dIx (ag 0) (ao dIx (ag 2) (cUn jQ (cC (.int 1))))) ak))))
    (br (ah bW (aa (ag 2) ak)))))) ds h).bind (cf h))
noncomputable def cw : MF := gT (fun ds h => ((b8 6 (aG (cb (ah aO (aa (ag 0) ak)))
    (aG (bC 1 (ah (fo iY) ak))
    (aG (bC 2 (ah p9 ak))
    (aG (eN (dY mX (aa (ao fq (ah bF (aa (ag 0) ak)) (cC (.int 1))) (aa (cUn jQ (cC (.int 1))) (aa (cUn jQ (cC (.int 1))) ak)))) (gN 3) (dA (aI asB (ao (wm true) (ag 3) (ag 2))) (aG (bC 4 (ah dF (aa (ag 0) (aa (ag 3) ak))))
    (aG (cb (fe du (ag 1) (aa (ag 4) ak)))
    (eN (dH (ag 4)) (gN 5) (cb (pJ lg (ag 2) (aa (ag 5) ak)))))) bX))
    (br (cUn (qP aC) (ag 1)))))))) ds h).bind (cf h))
noncomputable def j3 : MF := fun ds h => ((b8 1 (br (ah bW (aa (lI (dH (ah cw (aa (ag 0) ak))) [] (dH (ag 0)) (ag 1)) ak)))) ds h).bind (cf h)
noncomputable def dz : MF := b8 1 (br (ah bW (aa (bP aC (dY gq (aa (ao fq (ah bF (aa (ag 0) ak)) (cC (.int 1))) ak)) [0] (aI asB (ao dGt (ao dIx (ag 1) (ag 0)) (ao dIx (ag 1) (ao (bB aC) (ag 0) (cC (.int 1)))))) (ag 0)) ak)))
noncomputable def fI : MF := b8 1 (aG (cb (ah aO (aa (ag 0) ak)))
    (br (ah dz (aa (ag 0) ak))))
noncomputable def cT : MF := b8 1 (br (ah bF (aa (ah fI (aa (ag 0) ak)) ak)))
noncomputable def j7 : MF := gT (fun ds h => ((b8 4 (aG (cb (ah aO (aa (ag 0) ak)))
    (aG (bC 1 (ao (f7 iY) (ah (fo aC) (aa (cC (.int 0)) ak)) (ah bF (aa (ag 0) ak))))
    (aG (eN (ie (ag 0)) (gT2 2 3) (eO cF (ag 1) (ag 3) (ag 2)))
    (br (ah bW (aa (ag 1) ak))))))) ds h).bind (cf h))
noncomputable def d8 : MF := fun ds h => ((b8 5 (aG (cb (ah aO (aa (ag 0) ak)))
    (aG (bC 1 (ao (f7 iY) (ah (fo aC) (aa (cC (.int 0)) ak)) (ah bF (aa (ag 0) ak))))
    (aG (bC 2 (ao dIx (ag 0) (cC (.int 0))))
    (aG (eN (xt (aa (ag 0) (aa (ao (bB aC) (gu aC (ag 0) (iU (cC (.int 1))) gk) (ah lW (aa (ah bF (aa (ag 0) ak)) ak))) ak))) (gT2 3 4) (dA (aI asB (ao dGt (ag 4) (ag 2))) (aG (eO cF (ag 1) (ag 3) (ag 2))
    (bC 2 (ag 4))) (eO cF (ag 1) (ag 3) (ag 4))))
    (br (ah bW (aa (ag 1) ak)))))))) ds h).bind (cf h)
noncomputable def aK : MF := b8 3 (dA (jF (aI om (ah bZ (aa (ag 0) (aa (ag 1) (aa (ag 2) ak)))))) Eh bX)
noncomputable def cq : MF := b8 2 (aG (cb (ah aK (aa (ag 0) (aa (cC (.int 0)) (aa (cC (.int 20)) ak)))))
    (cb (ah aK (aa (ag 1) (aa (cC (.int 0)) (aa (cC (.int 20)) ak))))))
noncomputable def bY : MF := b8 6 (aG (bC 4 (cIf (aI asB (ao dGt (ag 2) (cC (.int 0)))) (ao dIx (ao dIx (ag 1) (ao fq (ag 2) (cC (.int 1)))) (ag 3)) (cC (.int 0))))
    (aG (bC 5 (cIf (aI asB (ao dGt (ag 3) (cC (.int 0)))) (ao (f7 aC) (ao fq (ag 0) (ag 3)) (ao dIx (ao dIx (ag 1) (ag 2)) (ao fq (ag 3) (cC (.int 1))))) (cC (.int 0))))
    (br (ao (bB aC) (ao (bB aC) (ag 4) (ao (f7 aC) (ag 3) (ao dIx (ao dIx (ag 1) (ag 2)) (ag 3)))) (ag 5)))))
noncomputable def dB : MF := b8 4 (aG (bC 1 (ah (gf aC) (aa (ao (bB aC) (ag 0) (cC (.int 1))) ak)))
    (aG (bC 2 (bP aC (dH (ag 1)) [1] tt1 (bP aC (dH (ag 1)) [0] tt1 (cIf (nY (aI asB (ao dEq (ag 1) (cC (.int 0)))) (aI asB (ao dEq (ag 0) (cC (.int 0))))) (cC (.int 1)) (cC (.int 0))))))
    (aG (eN (dY ni (aa (cC (.int 1)) (aa (ao (bB aC) (ag 0) (cC (.int 1))) ak))) (gN 3) (bC 2 (bP aC (dH (ag 1)) [3, 2, 1] tt1 (bP aC (dH (ag 3)) [1, 2, 0] tt1 (ah bY (aa (ag 1) (aa (ag 2) (aa (ag 3) (aa (ag 0) ak)))))))))
    (br (ag 2)))))
noncomputable def cQ : MF := b8 3 (br (cIf (nY (aI asB (ao dLe (ag 1) (ag 0))) (aI asB (ao dLe (ag 2) (ag 0)))) (ao dIx (ao dIx (ah dB (aa (ag 0) ak)) (ag 1)) (ag 2)) (cC (.int 0))))
noncomputable def bo : MF := b8 3 (aG (cb (ah aK (aa (ag 0) (aa (cC (.int 1)) (aa (cC (.int 20)) ak)))))
    (aG (cb (ah cq (aa (ag 1) (aa (ag 2) ak))))
    (br (ah cQ (aa (ag 0) (aa (ag 1) (aa (ag 2) ak)))))))
noncomputable def cN : MF := b8 2 (aG (cb (ah aK (aa (ag 0) (aa (cC (.int 1)) (aa (cC (.int 12)) ak)))))
    (cb (ah aK (aa (ag 1) (aa (cC (.int 0)) (aa (cC (.int 12)) ak))))))
noncomputable def cR : MF := fun ds h => ((b8 3 (aG (dA (lJ (jF (aI om (cUn (tj "tuple") (ag 1)))) (aI asB (ao dGt (ah bF (aa (ag 1) ak)) (ag 0)))) (br (cC (.bl false))) bX)
    (aG (eN (dH (ag 1)) (gN 2) (dA (jF (aI om (ah bZ (aa (ag 2) (aa (cC (.int 0)) (aa (ao fq (ag 0) (cC (.int 1))) ak)))))) (br (cC (.bl false))) bX))
    (br (ao dEq (ah bF (aa (ah u4 (aa (ag 1) ak)) ak)) (ah bF (aa (ag 1) ak))))))) ds h).bind (cf h)
noncomputable def cc : MF := b8 2 (dA (jF (aI om (ah cR (aa (ag 0) (aa (ag 1) ak))))) Eh bX)
noncomputable def fE : MF := b8 1 (aG (dA (aI asB (ao dEq (ah bF (aa (ag 0) ak)) (cC (.int 0)))) (br (cC (.int 0))) bX)
    (br (ao fq (ao dIx (ag 0) (cUn jQ (cC (.int 1)))) (ah bF (aa (bP aC (dH (ag 0)) [0] (aI asB (ao dLt (ag 0) (ao dIx (ag 1) (cUn jQ (cC (.int 1)))))) (ag 0)) ak)))))
noncomputable def cB : MF := b8 5 (aG (bC 3 (ao dIx (ao dIx (ag 0) (ao fq (ao fq (ah bF (aa (ag 0) ak)) (cC (.int 1))) (ah bF (aa (ag 2) ak)))) (ah fE (aa (ag 2) ak))))
    (aG (bC 4 (ao fq (ag 1) (ah bF (aa (ah dz (aa (ag 2) ak)) ak))))
    (br (cIf (aI asB (kE dLe dLt (cC (.int 0)) (ag 4) (ah bF (aa (ag 3) ak)))) (ao dIx (ag 3) (ag 4)) (cC (.int 0))))))
noncomputable def cI : MF := gT (fun ds h => ((b8 8 (aG (bC 2 (ao (f7 iY) (ah (fo aC) (aa (cC (.int 0)) ak)) (ao (bB aC) (ah bF (aa (ag 0) ak)) (cC (.int 1)))))
    (aG (eN (ie (ag 0)) (gT2 3 4) (aG (bC 5 (cIf (aI asB (ao dLt (ag 3) (ag 1))) (cC (.int 1)) (cC (.int 0))))
    (eN (ie (ag 4)) (gT2 6 7) (sA (ag 2) (ao (bB aC) (ag 6) (ag 5)) (ag 7)))))
    (br (ag 2))))) ds h).bind (cf h))
noncomputable def gg : MF := gT (fun ds h => ((b8 3 (aG (bC 1 (ah (fo iY) (aa (ah (fo aC) (aa (ah (fo aC) (aa (cC (.int 1)) ak)) ak)) ak)))
    (aG (eN (dY ni (aa (cC (.int 1)) (aa (ao (bB aC) (ag 0) (cC (.int 1))) ak))) (gN 2) (cb (fe du (ag 1) (aa (bP aC (dY gq (aa (ao (bB aC) (ag 2) (cC (.int 1))) ak)) [1] tt1 (ah cI (aa (ao dIx (ag 1) (cUn jQ (cC (.int 1)))) (aa (ag 0) ak)))) ak))))
    (br (ag 1))))) ds h).bind (cf h))
noncomputable def bI : MF := b8 3 (aG (cb (ah cN (aa (ag 0) (aa (ag 1) ak))))
    (aG (cb (ah cc (aa (ag 0) (aa (ag 2) ak))))
    (br (ah cB (aa (ah gg (aa (ag 0) ak)) (aa (ag 1) (aa (ag 2) ak)))))))
noncomputable def cj : MF := b8 2 (aG (cb (ah aK (aa (ag 0) (aa (cC (.int 1)) (aa (cC (.int 20)) ak)))))
    (aG (cb (ah aK (aa (ag 1) (aa (cC (.int 0)) (aa (cC (.int 20)) ak)))))
    (br (cIf (aI asB (ao dLe (ag 1) (ag 0))) (ah nA (aa (ao dIx (ah dB (aa (ag 0) ak)) (ag 1)) ak)) (cC (.int 0))))))
noncomputable def eQ : MF := gT (fun ds h => ((b8 5 (aG (bC 3 (ao (f7 iY) (ah (fo aC) (aa (cC (.int 0)) ak)) (ah bF (aa (ag 2) ak))))
    (aG (eN (dY ni (aa (cC (.int 1)) (aa (ah bF (aa (ag 2) ak)) ak))) (gN 4) (eO cF (ag 3) (ag 4) (ao (bB aC) (ao (bB aC) (ao (f7 aC) (ag 4) (ao dIx (ag 2) (ag 4))) (ao (f7 aC) (ao fq (ag 0) (ag 4)) (ao dIx (ag 2) (ao fq (ag 4) (cC (.int 1)))))) (ao (f7 aC) (ao fq (ag 0) (cC (.int 1))) (ao dIx (ag 1) (ao fq (ag 4) (cC (.int 1))))))))
    (br (ag 3))))) ds h).bind (cf h))
noncomputable def cV : MF := b8 5 (aG (cb (ah aK (aa (ag 0) (aa (cC (.int 1)) (aa (cC (.int 20)) ak)))))
    (aG (cb (ah aK (aa (ag 1) (aa (cC (.int 0)) (aa (cC (.int 20)) ak)))))
    (aG (xY 2 3 (aa (ao (bB aC) (ah (fo aC) (aa (cC (.int 1)) ak)) (ao (f7 aC) (ah (fo aC) (aa (cC (.int 0)) ak)) (cC (.int 20)))) (aa (ao (f7 aC) (ah (fo aC) (aa (cC (.int 0)) ak)) (ao (bB aC) (cC (.int 20)) (cC (.int 1)))) ak)))
    (aG (eN (dY ni (aa (cC (.int 2)) (aa (ao (bB aC) (ag 0) (cC (.int 1))) ak))) (gN 4) (xY 2 3 (aa (ag 3) (aa (ah eQ (aa (ag 4) (aa (ag 2) (aa (ag 3) ak)))) ak))))
    (br (ao dIx (ag 3) (ag 1)))))))
noncomputable def n_ : MF := fun ds h => ((b8 10 (aG (eN (dH (ao (bB aC) (ah (fo aC) (aa (ah b_ (aa (ag 0) (aa (cC (.int 0)) ak))) ak)) (gu aC (ag 0) (iU (cC (.int 1))) (iU (cC (.int 4)))))) (gN 1) (aG (bC 2 (ah cG (aa (ag 1) ak)))
    (aG (bC 3 (ao (bB aC) (cC (.int 1)) (ah aM (aa (ag 2) (aa (cC (.int 20)) ak)))))
    (aG (bC 4 (ah cA (aa (ag 2) (aa (ag 3) ak))))
    (aG (bC 5 (bP aC (dY gq (aa (ag 3) ak)) [4] (aI asB (ao dEq (ao dIx (ag 1) (ag 0)) (ag 0))) (ag 0)))
    (aG (dA (aI asB (ao dNe (ah (lA aC) (aa (ao (bB aC) (ao (bB aC) (ah cH (aa (ag 4) ak)) (ah bN (aa (ag 4) ak))) (ah bW (aa (ag 5) ak))) ak)) (ah (gf aC) (aa (ag 3) ak)))) (br (cC (.bl false))) bX)
    (aG (bC 6 (ah j3 (aa (ag 4) ak)))
    (aG (bC 7 (bP aC (dY gq (aa (ag 3) ak)) [6] (aI asB (ao dEq (ao dIx (ag 1) (ag 0)) (ah mR (aa (gu aC (ag 1) gk (iU (ao (bB aC) (ag 0) (cC (.int 1))))) ak)))) (ag 0)))
    (aG (dA (lJ (aI asB (ao (qD true) (ah bx (aa (ag 6) ak)) (cC (.bl true)))) (lJ (aI asB (ao dNe (ah bF (aa (ag 7) ak)) (ah bF (aa (ah cw (aa (ag 4) ak)) ak)))) (aI asB (ao dNe (ah cT (aa (ag 6) ak)) (ah bF (aa (ah bN (aa (ag 4) ak)) ak)))))) (br (cC (.bl false))) bX)
    (aG (dA (lJ (aI asB (ao dNe (ah bF (aa (ah cH (aa (ah j7 (aa (ag 4) ak)) ak)) ak)) (ah bF (aa (ah bN (aa (ag 4) ak)) ak)))) (aI asB (ao (qD true) (ah bx (aa (ah d8 (aa (ag 4) ak)) ak)) (cC (.bl true))))) (br (cC (.bl false))) bX)
    (aG (zL 3 8 (ah lW (aa (ao (bB aC) (cC (.int 1)) (ah aM (aa (ag 2) (aa (cC (.int 12)) ak)))) (aa (ah aM (aa (ag 2) (aa (cC (.int 12)) ak))) ak))))
    (aG (dA (aI asB (ao dNe (ah nA (aa (bP aC (dY gq (aa (ao (bB aC) (ag 3) (cC (.int 1))) ak)) [3, 8] tt1 (ah bo (aa (ag 1) (aa (ag 0) (aa (ag 2) ak))))) ak)) (ah bI (aa (ag 3) (aa (ag 8) (aa (ah lW ak) ak)))))) (br (cC (.bl false))) bX)
    (aG (bC 9 (ah aM (aa (ag 2) (aa (ao (bB aC) (ag 3) (cC (.int 1))) ak))))
    (aG (dA (aI asB (ao dNe (ah nA (aa (bP aC (dY gq (aa (ao (bB aC) (ag 3) (cC (.int 1))) ak)) [3, 9] tt1 (ah bo (aa (ag 1) (aa (ag 2) (aa (ag 0) ak))))) ak)) (ah cj (aa (ag 3) (aa (ag 9) ak))))) (br (cC (.bl false))) bX)
    (dA (aI asB (ao dGt (ah cV (aa (ag 3) (aa (ag 8) ak))) (ah bI (aa (ag 3) (aa (ag 8) (aa (ah lW ak) ak)))))) (br (cC (.bl false))) bX)))))))))))))))
    (br (cC (.bl true))))) ds h).bind (cf h)
noncomputable def aF (i : Nat) : Stmt := PySem.Challenge.pw_fallcounts_k65_whole_rounds.main.body.getD i (.Pass ⟨0, 0, 0, 0⟩)
structure Blt (mg : Str -> Option Value) : Prop where
  bool : mg "bool" = none
  enumerate : mg "enumerate" = none
  int : mg "int" = none
  isinstance : mg "isinstance" = none
  len : mg "len" = none
  list : mg "list" = none
  max : mg "max" = none
  range : mg "range" = none
  set : mg "set" = none
  sorted : mg "sorted" = none
  sum : mg "sum" = none
  tuple : mg "tuple" = none
  zip : mg "zip" = none
section
variable {P : Program} {w : World} {K : PySem.W.Frag} {mg : Str -> Option Value} {base : Heap} {g : GG}
theorem nF : aQ ["_law_script", "_law_k"] ["_law_script", "_law_k"] (ar (aF 44)) := ⟨rfl, rfl, rfl, by decide +kernel, rfl, by decide +kernel, by decide +kernel⟩
theorem lL (D : aL K mg "_law_cell_at" (aF 44)) (T : Blt mg) : Has P w K mg base g "_law_cell_at" 1 ["_law_script", "_law_k"] b_ := by
  obtain ⟨f, fd, hm, F⟩ := D
  refine ⟨f, fd, dm F nF (fun cdv A outer s H E hr => ?_), F.kp, F.binds (fun _ _ _ _ _ _ us hl => p8 hl fun _ _ => rfl), hm, aV F⟩
  exact (@au _ _ _ _ _ _ _ (@iV _ _ _ _ _ _ _ _ _ _ (@bA _ _ _ _ _ _ _ _ _ _ _ u_ uX (ae 1) (aN bH bE rfl T.len PySem.boot_len (@af _ _ _ _ _ _ _ (ae 0) aj rfl)) (bu _)) (@aA _ _ _ _ _ (@bq _ _ _ _ _ _ (@bS _ _ _ _ _ _ _ _ _ _ bp bT (ae 0) (ae 1) (fun _ _ => rfl)))) cz)
      (@aA _ _ _ _ _ (@bq _ _ _ _ _ _ aq)))
theorem jt : aQ ["_law_cell", "_law_left"] ["_law_cell"] (ar (aF 46)) := ⟨rfl, rfl, rfl, by decide +kernel, rfl, by decide +kernel, by decide +kernel⟩
theorem nK (D : aL K mg "_law_pen_of" (aF 46)) (T : Blt mg) : Has P w K mg base g "_law_pen_of" 1 ["_law_cell"] cG := by
  obtain ⟨f, fd, hm, F⟩ := D
  refine ⟨f, fd, dm F jt (fun cdv A outer s H E hr => ?_), F.kp, F.binds (fun _ _ _ _ _ _ us hl => iW hl fun _ => rfl), hm, aV F⟩
  exact (@au _ _ _ _ _ _ _ (@cL _ _ _ _ _ _ 1 _ _ jt.nd rfl (by first | exact Or.inl rfl | exact Or.inr rfl) (aN (xQ rfl) Dc rfl T.max PyProof.Rows.boot_max (@af _ _ _ _ _ _ _ (ae 0) (@af _ _ _ _ _ _ _ (@aE _ _ _ _ _ _ _ _ _ _ _ dI dM aq (ae 0)) aj rfl) rfl)) rfl (.inl rfl))
      (@aA _ _ _ _ _ (@bq _ _ _ _ _ _ (@eh _ _ _ _ _ _ _ _ (@af _ _ _ _ _ _ _ (ae 1) (@af _ _ _ _ _ _ _ (cu yG Ew rfl T.int PyProof.Rows.boot_int (@af _ _ _ _ _ _ _ (@vH _ _ _ _ _ _ _ _ _ _ _ F3 Ha (ae 1) (@aE _ _ _ _ _ _ _ _ _ _ _ Df Eg aq aq) (bu _)) aj rfl)) (@af _ _ _ _ _ _ _ (@aE _ _ _ _ _ _ _ _ _ _ _ pO oj (ae 1) aq) aj rfl) rfl) rfl)))))
theorem kT : aQ ["_law_seed"] ["_law_seed"] (ar (aF 45)) := ⟨rfl, rfl, rfl, by decide +kernel, rfl, by decide +kernel, by decide +kernel⟩
theorem qL (D : aL K mg "_law_next" (aF 45)) (T : Blt mg) : Has P w K mg base g "_law_next" 1 ["_law_seed"] ed := by
  obtain ⟨f, fd, hm, F⟩ := D
  refine ⟨f, fd, dm F kT (fun cdv A outer s H E hr => ?_), F.kp, F.binds (fun _ _ _ _ _ _ us hl => iW hl fun _ => rfl), hm, aV F⟩
  exact (@au _ _ _ _ _ _ _ (@cL _ _ _ _ _ _ 0 _ _ kT.nd rfl (by first | exact Or.inl rfl | exact Or.inr rfl) (@aE _ _ _ _ _ _ _ _ _ _ _ pO oj (@aE _ _ _ _ _ _ _ _ _ _ _ bK bJ (ae 0) aq) aq) rfl (.inl rfl))
      (@aA _ _ _ _ _ (@bq _ _ _ _ _ _ (@aE _ _ _ _ _ _ _ _ _ _ _ pO oj (@aE _ _ _ _ _ _ _ _ _ _ _ bK bJ (@aE _ _ _ _ _ _ _ _ _ _ _ bK bJ (@aE _ _ _ _ _ _ _ _ _ _ _ eW eM (ae 0) (ae 0)) (@aE _ _ _ _ _ _ _ _ _ _ _ eW eM aq (ae 0))) aq) aq))))
theorem k9 : aQ ["_law_pen", "_law_many", "_law_found"] ["_law_pen", "_law_many"] (ar (aF 47)) := ⟨rfl, rfl, rfl, by decide +kernel, rfl, by decide +kernel, by decide +kernel⟩
theorem qr (D : aL K mg "_law_draw" (aF 47)) (T : Blt mg) (gz : Has P w K mg base g "_law_next" 1 ["_law_seed"] ed) : Has P w K mg base g "_law_draw" 2 ["_law_pen", "_law_many"] aM := by
  obtain ⟨f, fd, hm, F⟩ := D
  obtain ⟨By, AL, j0, jT, jY, jS, _⟩ := gz
  refine ⟨f, fd, dm F k9 (fun cdv A outer s H E hr => ?_), F.kp, F.binds (fun _ _ _ _ _ _ us hl => p8 hl fun _ _ => rfl), hm, aV F⟩
  exact (@au _ _ _ _ _ _ _ (@iV _ _ _ _ _ _ _ _ _ _ (PW.pt (@vv _ _ _ _ _ _ _ _ _ (@bA _ _ _ _ _ _ _ _ _ _ _ (jr hr.units) mN (@bS _ _ _ _ _ _ _ _ _ _ bp bT (ae 0) aq (fun _ _ => rfl)) aq (bu _)) (@sF _ _ _ _ _ _ (@bA _ _ _ _ _ _ _ _ _ _ _ mJ mL (@bS _ _ _ _ _ _ _ _ _ _ bp bT (ae 0) aq (fun _ _ => rfl)) aq (bu _))))) (@au _ _ _ _ _ _ _ (@cL _ _ _ _ _ _ 2 _ _ k9.nd rfl (by first | exact Or.inl rfl | exact Or.inr rfl) (@aE _ _ _ _ _ _ _ _ _ _ _ pO oj (@bS _ _ _ _ _ _ _ _ _ _ bp bT (ae 0) aq (fun _ _ => rfl)) (ae 1)) rfl (.inl rfl))
      (@au _ _ _ _ _ _ _ (jJ (@aE _ _ _ _ _ _ _ _ _ _ _ uq AQ (@bS _ _ _ _ _ _ _ _ _ _ bp bT (ae 0) aq (fun _ _ => rfl)) (ae 1)) (ae 0) aq set_list f6)
      (@aA _ _ _ _ _ (@bq _ _ _ _ _ _ (ae 2))))) cz)
      (@au _ _ _ _ _ _ _ (jJ (ax (j0.mono (by decide)) hr rfl jS jT jY (@af _ _ _ _ _ _ _ (@aE _ _ _ _ _ _ _ _ _ _ _ bK bJ (ax (j0.mono (by decide)) hr rfl jS jT jY (@af _ _ _ _ _ _ _ (@bS _ _ _ _ _ _ _ _ _ _ bp bT (ae 0) aq (fun _ _ => rfl)) aj rfl) (ai aw)) aq) aj rfl) (ai aw)) (ae 0) aq set_list f6)
      (@aA _ _ _ _ _ (@bq _ _ _ _ _ _ (@aE _ _ _ _ _ _ _ _ _ _ _ pO oj (@aE _ _ _ _ _ _ _ _ _ _ _ uq AQ (@bS _ _ _ _ _ _ _ _ _ _ bp bT (ae 0) aq (fun _ _ => rfl)) aq) (ae 1))))))
theorem jV : aQ ["_law_pen", "_law_n", "_law_left"] ["_law_pen", "_law_n"] (ar (aF 48)) := ⟨rfl, rfl, rfl, by decide +kernel, rfl, by decide +kernel, by decide +kernel⟩
theorem n9 (D : aL K mg "_law_order" (aF 48)) (T : Blt mg) (dh : Has P w K mg base g "_law_draw" 2 ["_law_pen", "_law_many"] aM) : Has P w K mg base g "_law_order" 3 ["_law_pen", "_law_n"] cA := by
  obtain ⟨f, fd, hm, F⟩ := D
  obtain ⟨qm, pM, dk, df, dg, dj, _⟩ := dh
  refine ⟨f, fd, dU (dm F jV (fun cdv A outer s H E hr => ?_)), F.kp, F.binds (fun _ _ _ _ _ _ us hl => p8 hl fun _ _ => rfl), hm, aV F⟩
  exact (@au _ _ _ _ _ _ _ (@cL _ _ _ _ _ _ 2 _ _ jV.nd rfl (by first | exact Or.inl rfl | exact Or.inr rfl) (pG rfl rfl T.list rfl T.range (@af _ _ _ _ _ _ _ (ae 1) aj rfl)) rfl (.inl rfl))
      (@aA _ _ _ _ _ (@bq _ _ _ _ _ _ (cu bR eC rfl T.tuple PyProof.Rows.boot_tuple (@af _ _ _ _ _ _ _ (fc (osc := ar (aF 48)) [2, 0] ["_law_place", "_law_left", "_law_pen"] rfl rfl rfl rfl (by decide +kernel) ⟨by decide +kernel, by decide +kernel, rfl, by decide +kernel, rfl, by decide +kernel⟩ (g_ rfl T.range (@af _ _ _ _ _ _ _ (ae 1) aj rfl))
        (fun cl C ay aB fp => jg) (fun cl C ay aB fp => (sU PySem.F.slot_list_pop PySem.F.type_list_pop zO Fs (ae 1) (@af _ _ _ _ _ _ _ (ax (dk.mono (by decide)) hr rfl dj df dg (@af _ _ _ _ _ _ _ (ae 2) (@af _ _ _ _ _ _ _ (aN bH bE rfl T.len PySem.boot_len (@af _ _ _ _ _ _ _ (ae 1) aj rfl)) aj rfl) rfl) (ai (ai aw))) aj rfl)))) aj rfl)))))
theorem uJ : aQ ["thing"] ["thing"] (ar (aF 6)) := ⟨rfl, rfl, rfl, by decide +kernel, rfl, by decide +kernel, by decide +kernel⟩
theorem rQ (D : aL K mg "is_whole" (aF 6)) (T : Blt mg) : Has P w K mg base g "is_whole" 1 ["thing"] fW := by
  obtain ⟨f, fd, hm, F⟩ := D
  refine ⟨f, fd, dm F uJ (fun cdv A outer s H E hr => ?_), F.kp, F.binds (fun _ _ _ _ _ _ us hl => iW hl fun _ => rfl), hm, aV F⟩
  exact (@aA _ _ _ _ _ (@bq _ _ _ _ _ _ (@Ac _ _ _ _ _ _ _ _ _ (sY (ae 0) rfl T.isinstance rfl T.int PyProof.Rows.boot_int) (@zM _ _ _ _ _ _ _ (@EM _ _ _ _ _ _ (sY (ae 0) rfl T.isinstance rfl T.bool PyProof.Rows.boot_bool))))))
theorem tL : aQ ["thing", "least", "most"] ["thing", "least", "most"] (ar (aF 7)) := ⟨rfl, rfl, rfl, by decide +kernel, rfl, by decide +kernel, by decide +kernel⟩
theorem qk (D : aL K mg "is_within" (aF 7)) (T : Blt mg) (iO : Has P w K mg base g "is_whole" 1 ["thing"] fW) : Has P w K mg base g "is_within" 2 ["thing", "least", "most"] bZ := by
  obtain ⟨f, fd, hm, F⟩ := D
  obtain ⟨BH, Bx, sP, tP, sW, sI, _⟩ := iO
  refine ⟨f, fd, dm F tL (fun cdv A outer s H E hr => ?_), F.kp, F.binds (fun _ _ _ _ _ _ us hl => vV hl fun _ _ _ => rfl), hm, aV F⟩
  exact (@aA _ _ _ _ _ (@bq _ _ _ _ _ _ (@Ac _ _ _ _ _ _ _ _ _ (ax (sP.mono (by decide)) hr rfl sI tP sW (@af _ _ _ _ _ _ _ (ae 0) aj rfl) (ai aw)) (@zM _ _ _ _ _ _ _ (zo mV mV mK mK (ae 1) (ae 0) (ae 2))))))
theorem jU : aQ ["thing", "number"] ["thing"] (ar (aF 11)) := ⟨rfl, rfl, rfl, by decide +kernel, rfl, by decide +kernel, by decide +kernel⟩
theorem oW (D : aL K mg "order_good" (aF 11)) (T : Blt mg) {eL : Tok} (dq : mg "MOST_NUMBERS_orders" = some (.int 20 eL)) (bQ : Has P w K mg base g "is_within" 2 ["thing", "least", "most"] bZ) : Has P w K mg base g "order_good" 3 ["thing"] bx := by
  obtain ⟨f, fd, hm, F⟩ := D
  obtain ⟨jZ, iZ, dS, dP, dR, dO, _⟩ := bQ
  refine ⟨f, fd, dU (dm F jU (fun cdv A outer s H E hr => ?_)), F.kp, F.binds (fun _ _ _ _ _ _ us hl => iW hl fun _ => rfl), hm, aV F⟩
  exact (@au _ _ _ _ _ _ _ (@iV _ _ _ _ _ _ _ _ _ _ (PW.pt (@vg _ _ _ _ _ _ _ _ _ (@jl _ _ _ _ _ _ (@fR _ _ _ _ _ _ kz (sY (ae 0) rfl T.isinstance rfl T.tuple PyProof.Rows.boot_tuple) (fun _ => rfl))) (@sg _ _ _ _ _ _ (@jl _ _ _ _ _ _ (uZ mV mV mK mK aq (aN bH bE rfl T.len PySem.boot_len (@af _ _ _ _ _ _ _ (ae 0) aj rfl)) (c_ rfl dq)))))) (@aA _ _ _ _ _ (@bq _ _ _ _ _ _ gR)) cz)
      (@au _ _ _ _ _ _ _ (gS PassesOwn.never rfl (@fU _ _ _ _ _ _ (ae 0)) (bw (i := 1) jU.nd rfl (by first | exact Or.inl rfl | exact Or.inr rfl)) fD (@aA _ _ _ _ _ (@iV _ _ _ _ _ _ _ _ _ _ (@jl _ _ _ _ _ _ (@fR _ _ _ _ _ _ kz (ax (dS.mono (by decide)) hr rfl dO dP dR (@af _ _ _ _ _ _ _ (ae 1) (@af _ _ _ _ _ _ _ aq (@af _ _ _ _ _ _ _ (@aE _ _ _ _ _ _ _ _ _ _ _ dI dM (aN bH bE rfl T.len PySem.boot_len (@af _ _ _ _ _ _ _ (ae 0) aj rfl)) aq) aj rfl) rfl) rfl) (ai (ai (ai aw)))) (fun _ => rfl))) (@aA _ _ _ _ _ (@bq _ _ _ _ _ _ gR)) cz)))
      (@aA _ _ _ _ _ (@bq _ _ _ _ _ _ (@vH _ _ _ _ _ _ _ _ _ _ _ (jr hr.units) mN (aN bH bE rfl T.len PySem.boot_len (@af _ _ _ _ _ _ _ (cu (kR rfl) AR rfl T.set PyProof.Rows.boot_set (@af _ _ _ _ _ _ _ (ae 0) aj rfl)) aj rfl)) (aN bH bE rfl T.len PySem.boot_len (@af _ _ _ _ _ _ _ (ae 0) aj rfl)) (bu _))))))
theorem nr : aQ ["thing"] ["thing"] (ar (aF 12)) := ⟨rfl, rfl, rfl, by decide +kernel, rfl, by decide +kernel, by decide +kernel⟩
theorem lO (D : aL K mg "order_needed" (aF 12)) (T : Blt mg) (cS : Has P w K mg base g "order_good" 3 ["thing"] bx) : Has P w K mg base g "order_needed" 4 ["thing"] aO := by
  obtain ⟨f, fd, hm, F⟩ := D
  obtain ⟨pX, m9, eD, eg, eF, eH, _⟩ := cS
  refine ⟨f, fd, dm F nr (fun cdv A outer s H E hr => ?_), F.kp, F.binds (fun _ _ _ _ _ _ us hl => iW hl fun _ => rfl), hm, aV F⟩
  exact (@aA _ _ _ _ _ (@iV _ _ _ _ _ _ _ _ _ _ (@jl _ _ _ _ _ _ (@fR _ _ _ _ _ _ kz (ax (eD.mono (by decide)) hr rfl eH eg eF (@af _ _ _ _ _ _ _ (ae 0) aj rfl) (ai aw)) (fun _ => rfl))) (@aA _ _ _ _ _ (PS.imp pL fun E σ H ⟨α, env, h, s, w⟩ => w.elim)) cz))
theorem uk : aQ ["order"] ["order"] (ar (aF 31)) := ⟨rfl, rfl, rfl, by decide +kernel, rfl, by decide +kernel, by decide +kernel⟩
theorem tF (D : aL K mg "lifts_of" (aF 31)) (T : Blt mg) (aD : Has P w K mg base g "order_needed" 4 ["thing"] aO) : Has P w K mg base g "lifts_of" 5 ["order"] cH := by
  obtain ⟨f, fd, hm, F⟩ := D
  obtain ⟨cP, cx, a9, a8, ba, a_, _⟩ := aD
  refine ⟨f, fd, dm F uk (fun cdv A outer s H E hr => ?_), F.kp, F.binds (fun _ _ _ _ _ _ us hl => iW hl fun _ => rfl), hm, aV F⟩
  exact (@au _ _ _ _ _ _ _ (cp (ax (a9.mono (by decide)) hr rfl a_ a8 ba (@af _ _ _ _ _ _ _ (ae 0) aj rfl) (ai aw)))
      (@aA _ _ _ _ _ (@bq _ _ _ _ _ _ (cu bR eC rfl T.tuple PyProof.Rows.boot_tuple (@af _ _ _ _ _ _ _ (u9 (osc := ar (aF 31)) [] ["place", "number"] rfl rfl rfl rfl (by decide +kernel) ⟨by decide +kernel, by decide +kernel, rfl, by decide +kernel, by decide +kernel⟩ (kN rfl T.enumerate (ae 0)) (fun cl C ay aB fp => ⟨Or.inl rfl, rfl⟩) (fun cl C ay aB fp => ⟨Or.inl rfl, rfl⟩)
        (fun cl C ay aB fp => (mj (@bA _ _ _ _ _ _ _ _ _ _ _ mJ mL (ae 1) (ae 0) (bu _)))) (fun cl C ay aB fp => (ae 0))) aj rfl)))))
theorem t9 : aQ ["order"] ["order"] (ar (aF 32)) := ⟨rfl, rfl, rfl, by decide +kernel, rfl, by decide +kernel, by decide +kernel⟩
theorem tw (D : aL K mg "drops_of" (aF 32)) (T : Blt mg) (aD : Has P w K mg base g "order_needed" 4 ["thing"] aO) : Has P w K mg base g "drops_of" 5 ["order"] bN := by
  obtain ⟨f, fd, hm, F⟩ := D
  obtain ⟨cP, cx, a9, a8, ba, a_, _⟩ := aD
  refine ⟨f, fd, dm F t9 (fun cdv A outer s H E hr => ?_), F.kp, F.binds (fun _ _ _ _ _ _ us hl => iW hl fun _ => rfl), hm, aV F⟩
  exact (@au _ _ _ _ _ _ _ (cp (ax (a9.mono (by decide)) hr rfl a_ a8 ba (@af _ _ _ _ _ _ _ (ae 0) aj rfl) (ai aw)))
      (@aA _ _ _ _ _ (@bq _ _ _ _ _ _ (cu bR eC rfl T.tuple PyProof.Rows.boot_tuple (@af _ _ _ _ _ _ _ (u9 (osc := ar (aF 32)) [] ["place", "number"] rfl rfl rfl rfl (by decide +kernel) ⟨by decide +kernel, by decide +kernel, rfl, by decide +kernel, by decide +kernel⟩ (kN rfl T.enumerate (ae 0)) (fun cl C ay aB fp => ⟨Or.inl rfl, rfl⟩) (fun cl C ay aB fp => ⟨Or.inl rfl, rfl⟩)
        (fun cl C ay aB fp => (mj (@bA _ _ _ _ _ _ _ _ _ _ _ u_ uX (ae 1) (ae 0) (bu _)))) (fun cl C ay aB fp => (ae 0))) aj rfl)))))
theorem jX : aQ ["order", "first", "found"] ["order", "first"] (ar (aF 30)) := ⟨rfl, rfl, rfl, by decide +kernel, rfl, by decide +kernel, by decide +kernel⟩
theorem o_ (D : aL K mg "round_from" (aF 30)) (T : Blt mg) : Has P w K mg base g "round_from" 1 ["order", "first"] dF := by
  obtain ⟨f, fd, hm, F⟩ := D
  refine ⟨f, fd, lN (dU (dm F jX (fun cdv A outer s H E hr => ?_))), F.kp, F.binds (fun _ _ _ _ _ _ us hl => p8 hl fun _ _ => rfl), hm, aV F⟩
  exact (@au _ _ _ _ _ _ _ (@cL _ _ _ _ _ _ 2 _ _ jX.nd rfl (by first | exact Or.inl rfl | exact Or.inr rfl) (@eh _ _ _ _ _ _ _ _ (@af _ _ _ _ _ _ _ (ae 1) aj rfl)) rfl (.inl rfl))
      (@au _ _ _ _ _ _ _ (@Di _ _ _ _ _ _ _ _ 64 PassesOwn.never (@bA _ _ _ _ _ _ _ _ _ _ _ (j9 hr.units) pS (@bS _ _ _ _ _ _ _ _ _ _ bp bT (ae 0) (@bS _ _ _ _ _ _ _ _ _ _ bp bT (ae 2) (@ou _ _ _ _ _ _ _ _ _ jB km aq) (fun _ _ => rfl)) (fun _ _ => rfl)) (ae 1) (bu _)) (@aA _ _ _ _ _ (cp (sU PySem.F.slot_list_append PySem.F.type_list_append fG l5 (ae 2) (@af _ _ _ _ _ _ _ (@bS _ _ _ _ _ _ _ _ _ _ bp bT (ae 0) (@bS _ _ _ _ _ _ _ _ _ _ bp bT (ae 2) (@ou _ _ _ _ _ _ _ _ _ jB km aq) (fun _ _ => rfl)) (fun _ _ => rfl)) aj rfl)))))
      (@aA _ _ _ _ _ (@bq _ _ _ _ _ _ (cu bR eC rfl T.tuple PyProof.Rows.boot_tuple (@af _ _ _ _ _ _ _ (ae 2) aj rfl))))))
theorem dG : aQ ["order", "rounds", "seen", "place", "found", "one"] ["order"] (ar (aF 29)) := ⟨rfl, rfl, rfl, by decide +kernel, rfl, by decide +kernel, by decide +kernel⟩
theorem qG (D : aL K mg "rounds_of" (aF 29)) (T : Blt mg) (aD : Has P w K mg base g "order_needed" 4 ["thing"] aO) (fL : Has P w K mg base g "round_from" 1 ["order", "first"] dF) : Has P w K mg base g "rounds_of" 5 ["order"] cw := by
  obtain ⟨f, fd, hm, F⟩ := D
  obtain ⟨cP, cx, a9, a8, ba, a_, _⟩ := aD
  obtain ⟨zQ, yR, pQ, ph, pj, pB, _⟩ := fL
  refine ⟨f, fd, lN (dU (dm F dG (fun cdv A outer s H E hr => ?_))), F.kp, F.binds (fun _ _ _ _ _ _ us hl => iW hl fun _ => rfl), hm, aV F⟩
  exact (@au _ _ _ _ _ _ _ (cp (ax (a9.mono (by decide)) hr rfl a_ a8 ba (@af _ _ _ _ _ _ _ (ae 0) aj rfl) (ai aw)))
      (@au _ _ _ _ _ _ _ (@cL _ _ _ _ _ _ 1 _ _ dG.nd rfl (by first | exact Or.inl rfl | exact Or.inr rfl) (@eh _ _ _ _ _ _ _ _ aj) rfl (.inl rfl))
      (@au _ _ _ _ _ _ _ (@cL _ _ _ _ _ _ 2 _ _ dG.nd rfl (by first | exact Or.inl rfl | exact Or.inr rfl) (B7 rfl T.set) rfl (.inl rfl))
      (@au _ _ _ _ _ _ _ (gS PassesOwn.never rfl (Ca rfl T.range (@af _ _ _ _ _ _ _ (@aE _ _ _ _ _ _ _ _ _ _ _ dI dM (aN bH bE rfl T.len PySem.boot_len (@af _ _ _ _ _ _ _ (ae 0) aj rfl)) aq) (@af _ _ _ _ _ _ _ (@ou _ _ _ _ _ _ _ _ _ jB km aq) (@af _ _ _ _ _ _ _ (@ou _ _ _ _ _ _ _ _ _ jB km aq) aj rfl) rfl) rfl)) (bw (i := 3) dG.nd rfl (by first | exact Or.inl rfl | exact Or.inr rfl)) fD (@aA _ _ _ _ _ (@iV _ _ _ _ _ _ _ _ _ _ (@bA _ _ _ _ _ _ _ _ _ _ _ yK E2 (ae 3) (ae 2) (by rfl)) (@au _ _ _ _ _ _ _ (@cL _ _ _ _ _ _ 4 _ _ dG.nd rfl (by first | exact Or.inl rfl | exact Or.inr rfl) (ax (pQ.mono (by decide)) hr rfl pB ph pj (@af _ _ _ _ _ _ _ (ae 0) (@af _ _ _ _ _ _ _ (ae 3) aj rfl) rfl) (ai (ai aw))) rfl (.inl rfl))
      (@au _ _ _ _ _ _ _ (cp (sU PySem.F.slot_list_append PySem.F.type_list_append fG l5 (ae 1) (@af _ _ _ _ _ _ _ (ae 4) aj rfl)))
      (@aA _ _ _ _ _ (gS PassesOwn.never rfl (@fU _ _ _ _ _ _ (ae 4)) (bw (i := 5) dG.nd rfl (by first | exact Or.inl rfl | exact Or.inr rfl)) fD (@aA _ _ _ _ _ (cp (Fg PySem.F.slot_set_add PySem.F.type_set_add FD Dy (ae 2) (@af _ _ _ _ _ _ _ (ae 5) aj rfl)))))))) cz)))
      (@aA _ _ _ _ _ (@bq _ _ _ _ _ _ (CY (ae 1))))))))
theorem C8 : aQ ["order"] ["order"] (ar (aF 33)) := ⟨rfl, rfl, rfl, by decide +kernel, rfl, by decide +kernel, by decide +kernel⟩
theorem Bd (D : aL K mg "laid" (aF 33)) (T : Blt mg) (de : Has P w K mg base g "rounds_of" 5 ["order"] cw) : Has P w K mg base g "laid" 6 ["order"] j3 := by
  obtain ⟨f, fd, hm, F⟩ := D
  obtain ⟨qA, qb, gB, gx, gE, gF, _⟩ := de
  refine ⟨f, fd, dU (dm F C8 (fun cdv A outer s H E hr => ?_)), F.kp, F.binds (fun _ _ _ _ _ _ us hl => iW hl fun _ => rfl), hm, aV F⟩
  exact (@aA _ _ _ _ _ (@bq _ _ _ _ _ _ (cu bR eC rfl T.tuple PyProof.Rows.boot_tuple (@af _ _ _ _ _ _ _ (yn (osc := ar (aF 33)) [] ["found", "place"] rfl rfl rfl (by decide +kernel) ⟨by decide +kernel, by decide +kernel, rfl, by decide +kernel, by decide +kernel⟩ (@fU _ _ _ _ _ _ (ax (gB.mono (by decide)) hr rfl gF gx gE (@af _ _ _ _ _ _ _ (ae 0) aj rfl) (ai aw))) (fun cl C ay aB fp => ⟨Or.inl rfl, rfl⟩) (fun cl C ay aB fp => ⟨Or.inl rfl, rfl⟩)
        (fun cl C ay aB fp => (@fU _ _ _ _ _ _ (ae 0))) (fun cl C ay aB fp => (ae 1))) aj rfl))))
theorem uH : aQ ["numbers"] ["numbers"] (ar (aF 13)) := ⟨rfl, rfl, rfl, by decide +kernel, rfl, by decide +kernel, by decide +kernel⟩
theorem sR (D : aL K mg "falls_in" (aF 13)) (T : Blt mg) : Has P w K mg base g "falls_in" 1 ["numbers"] dz := by
  obtain ⟨f, fd, hm, F⟩ := D
  refine ⟨f, fd, dm F uH (fun cdv A outer s H E hr => ?_), F.kp, F.binds (fun _ _ _ _ _ _ us hl => iW hl fun _ => rfl), hm, aV F⟩
  exact (@aA _ _ _ _ _ (@bq _ _ _ _ _ _ (cu bR eC rfl T.tuple PyProof.Rows.boot_tuple (@af _ _ _ _ _ _ _ (fc (osc := ar (aF 13)) [0] ["place", "numbers"] rfl rfl rfl rfl (by decide +kernel) ⟨by decide +kernel, by decide +kernel, rfl, by decide +kernel, rfl, by decide +kernel⟩ (g_ rfl T.range (@af _ _ _ _ _ _ _ (@aE _ _ _ _ _ _ _ _ _ _ _ dI dM (aN bH bE rfl T.len PySem.boot_len (@af _ _ _ _ _ _ _ (ae 0) aj rfl)) aq) aj rfl))
        (fun cl C ay aB fp => (mj (@bA _ _ _ _ _ _ _ _ _ _ _ mJ mL (@bS _ _ _ _ _ _ _ _ _ _ bp bT (ae 1) (ae 0) (fun _ _ => rfl)) (@bS _ _ _ _ _ _ _ _ _ _ bp bT (ae 1) (@aE _ _ _ _ _ _ _ _ _ _ _ bK bJ (ae 0) aq) (fun _ _ => rfl)) (bu _)))) (fun cl C ay aB fp => (ae 0))) aj rfl))))
theorem t4 : aQ ["order"] ["order"] (ar (aF 14)) := ⟨rfl, rfl, rfl, by decide +kernel, rfl, by decide +kernel, by decide +kernel⟩
theorem rL (D : aL K mg "falls_of" (aF 14)) (T : Blt mg) (aD : Has P w K mg base g "order_needed" 4 ["thing"] aO) (dC : Has P w K mg base g "falls_in" 1 ["numbers"] dz) : Has P w K mg base g "falls_of" 5 ["order"] fI := by
  obtain ⟨f, fd, hm, F⟩ := D
  obtain ⟨cP, cx, a9, a8, ba, a_, _⟩ := aD
  obtain ⟨tV, qB, h8, h_, iK, hX, _⟩ := dC
  refine ⟨f, fd, dm F t4 (fun cdv A outer s H E hr => ?_), F.kp, F.binds (fun _ _ _ _ _ _ us hl => iW hl fun _ => rfl), hm, aV F⟩
  exact (@au _ _ _ _ _ _ _ (cp (ax (a9.mono (by decide)) hr rfl a_ a8 ba (@af _ _ _ _ _ _ _ (ae 0) aj rfl) (ai aw)))
      (@aA _ _ _ _ _ (@bq _ _ _ _ _ _ (ax (h8.mono (by decide)) hr rfl hX h_ iK (@af _ _ _ _ _ _ _ (ae 0) aj rfl) (ai aw)))))
theorem qH : aQ ["order"] ["order"] (ar (aF 15)) := ⟨rfl, rfl, rfl, by decide +kernel, rfl, by decide +kernel, by decide +kernel⟩
theorem pT (D : aL K mg "falls_many" (aF 15)) (T : Blt mg) (iA : Has P w K mg base g "falls_of" 5 ["order"] fI) : Has P w K mg base g "falls_many" 6 ["order"] cT := by
  obtain ⟨f, fd, hm, F⟩ := D
  obtain ⟨C7, Br, sf, rN, sM, sJ, _⟩ := iA
  refine ⟨f, fd, dm F qH (fun cdv A outer s H E hr => ?_), F.kp, F.binds (fun _ _ _ _ _ _ us hl => iW hl fun _ => rfl), hm, aV F⟩
  exact (@aA _ _ _ _ _ (@bq _ _ _ _ _ _ (aN bH bE rfl T.len PySem.boot_len (@af _ _ _ _ _ _ _ (ax (sf.mono (by decide)) hr rfl sJ rN sM (@af _ _ _ _ _ _ _ (ae 0) aj rfl) (ai aw)) aj rfl))))
theorem nM : aQ ["order", "places", "place", "number"] ["order"] (ar (aF 16)) := ⟨rfl, rfl, rfl, by decide +kernel, rfl, by decide +kernel, by decide +kernel⟩
theorem Bm (D : aL K mg "back" (aF 16)) (T : Blt mg) (aD : Has P w K mg base g "order_needed" 4 ["thing"] aO) : Has P w K mg base g "back" 5 ["order"] j7 := by
  obtain ⟨f, fd, hm, F⟩ := D
  obtain ⟨cP, cx, a9, a8, ba, a_, _⟩ := aD
  refine ⟨f, fd, lN (dU (dm F nM (fun cdv A outer s H E hr => ?_))), F.kp, F.binds (fun _ _ _ _ _ _ us hl => iW hl fun _ => rfl), hm, aV F⟩
  exact (@au _ _ _ _ _ _ _ (cp (ax (a9.mono (by decide)) hr rfl a_ a8 ba (@af _ _ _ _ _ _ _ (ae 0) aj rfl) (ai aw)))
      (@au _ _ _ _ _ _ _ (@cL _ _ _ _ _ _ 1 _ _ nM.nd rfl (by first | exact Or.inl rfl | exact Or.inr rfl) (@aE _ _ _ _ _ _ _ _ _ _ _ eW eM (@eh _ _ _ _ _ _ _ _ (@af _ _ _ _ _ _ _ aq aj rfl)) (aN bH bE rfl T.len PySem.boot_len (@af _ _ _ _ _ _ _ (ae 0) aj rfl))) rfl (.inl rfl))
      (@au _ _ _ _ _ _ _ (gS PassesOwn.never rfl (kN rfl T.enumerate (ae 0)) (mD rfl (cZ (bw (i := 2) nM.nd rfl (by first | exact Or.inl rfl | exact Or.inr rfl)) (cZ (bw (i := 3) nM.nd rfl (by first | exact Or.inl rfl | exact Or.inr rfl)) jK))) oq (@aA _ _ _ _ _ (jJ (ae 2) (ae 1) (ae 3) set_list f6)))
      (@aA _ _ _ _ _ (@bq _ _ _ _ _ _ (cu bR eC rfl T.tuple PyProof.Rows.boot_tuple (@af _ _ _ _ _ _ _ (ae 1) aj rfl)))))))
theorem d_ : aQ ["order", "numbers", "first", "place", "follower"] ["order"] (ar (aF 34)) := ⟨rfl, rfl, rfl, by decide +kernel, rfl, by decide +kernel, by decide +kernel⟩
theorem rY (D : aL K mg "taken_up" (aF 34)) (T : Blt mg) (aD : Has P w K mg base g "order_needed" 4 ["thing"] aO) : Has P w K mg base g "taken_up" 5 ["order"] d8 := by
  obtain ⟨f, fd, hm, F⟩ := D
  obtain ⟨cP, cx, a9, a8, ba, a_, _⟩ := aD
  refine ⟨f, fd, dU (dm F d_ (fun cdv A outer s H E hr => ?_)), F.kp, F.binds (fun _ _ _ _ _ _ us hl => iW hl fun _ => rfl), hm, aV F⟩
  exact (@au _ _ _ _ _ _ _ (cp (ax (a9.mono (by decide)) hr rfl a_ a8 ba (@af _ _ _ _ _ _ _ (ae 0) aj rfl) (ai aw)))
      (@au _ _ _ _ _ _ _ (@cL _ _ _ _ _ _ 1 _ _ d_.nd rfl (by first | exact Or.inl rfl | exact Or.inr rfl) (@aE _ _ _ _ _ _ _ _ _ _ _ eW eM (@eh _ _ _ _ _ _ _ _ (@af _ _ _ _ _ _ _ aq aj rfl)) (aN bH bE rfl T.len PySem.boot_len (@af _ _ _ _ _ _ _ (ae 0) aj rfl))) rfl (.inl rfl))
      (@au _ _ _ _ _ _ _ (@cL _ _ _ _ _ _ 2 _ _ d_.nd rfl (by first | exact Or.inl rfl | exact Or.inr rfl) (@bS _ _ _ _ _ _ _ _ _ _ bp bT (ae 0) aq (fun _ _ => rfl)) rfl (.inl rfl))
      (@au _ _ _ _ _ _ _ (gS PassesOwn.never rfl (BP rfl T.zip (@af _ _ _ _ _ _ _ (ae 0) (@af _ _ _ _ _ _ _ (@aE _ _ _ _ _ _ _ _ _ _ _ bK bJ (pA (ae 0) (@nN _ _ _ _ _ aq) xA) (@sh _ _ _ _ _ _ _ (@af _ _ _ _ _ _ _ (aN bH bE rfl T.len PySem.boot_len (@af _ _ _ _ _ _ _ (ae 0) aj rfl)) aj rfl))) aj rfl) rfl)) (mD rfl (cZ (bw (i := 3) d_.nd rfl (by first | exact Or.inl rfl | exact Or.inr rfl)) (cZ (bw (i := 4) d_.nd rfl (by first | exact Or.inl rfl | exact Or.inr rfl)) jK))) oq (@aA _ _ _ _ _ (@iV _ _ _ _ _ _ _ _ _ _ (@bA _ _ _ _ _ _ _ _ _ _ _ mJ mL (ae 4) (ae 2) (bu _)) (@au _ _ _ _ _ _ _ (jJ (ae 2) (ae 1) (ae 3) set_list f6)
      (@aA _ _ _ _ _ (@cL _ _ _ _ _ _ 2 _ _ d_.nd rfl (by first | exact Or.inl rfl | exact Or.inr rfl) (ae 4) rfl (.inl rfl)))) (@aA _ _ _ _ _ (jJ (ae 4) (ae 1) (ae 3) set_list f6)))))
      (@aA _ _ _ _ _ (@bq _ _ _ _ _ _ (cu bR eC rfl T.tuple PyProof.Rows.boot_tuple (@af _ _ _ _ _ _ _ (ae 1) aj rfl))))))))
theorem lX : aQ ["thing", "least", "most"] ["thing", "least", "most"] (ar (aF 8)) := ⟨rfl, rfl, rfl, by decide +kernel, rfl, by decide +kernel, by decide +kernel⟩
theorem lG (D : aL K mg "number_needed" (aF 8)) (T : Blt mg) (bQ : Has P w K mg base g "is_within" 2 ["thing", "least", "most"] bZ) : Has P w K mg base g "number_needed" 3 ["thing", "least", "most"] aK := by
  obtain ⟨f, fd, hm, F⟩ := D
  obtain ⟨jZ, iZ, dS, dP, dR, dO, _⟩ := bQ
  refine ⟨f, fd, dm F lX (fun cdv A outer s H E hr => ?_), F.kp, F.binds (fun _ _ _ _ _ _ us hl => vV hl fun _ _ _ => rfl), hm, aV F⟩
  exact (@aA _ _ _ _ _ (@iV _ _ _ _ _ _ _ _ _ _ (@jl _ _ _ _ _ _ (@fR _ _ _ _ _ _ kz (ax (dS.mono (by decide)) hr rfl dO dP dR (@af _ _ _ _ _ _ _ (ae 0) (@af _ _ _ _ _ _ _ (ae 1) (@af _ _ _ _ _ _ _ (ae 2) aj rfl) rfl) rfl) (ai (ai (ai aw)))) (fun _ => rfl))) (@aA _ _ _ _ _ (PS.imp pL fun E σ H ⟨α, env, h, s, w⟩ => w.elim)) cz))
theorem mw : aQ ["r", "k"] ["r", "k"] (ar (aF 38)) := ⟨rfl, rfl, rfl, by decide +kernel, rfl, by decide +kernel, by decide +kernel⟩
theorem kQ (D : aL K mg "counts_needed" (aF 38)) (T : Blt mg) {aZ : Tok} (av : mg "MOST_NUMBERS_rounds" = some (.int 20 aZ)) (aJ : Has P w K mg base g "number_needed" 3 ["thing", "least", "most"] aK) : Has P w K mg base g "counts_needed" 4 ["r", "k"] cq := by
  obtain ⟨f, fd, hm, F⟩ := D
  obtain ⟨dv, cW, aT, aP, aS, aR, _⟩ := aJ
  refine ⟨f, fd, dm F mw (fun cdv A outer s H E hr => ?_), F.kp, F.binds (fun _ _ _ _ _ _ us hl => p8 hl fun _ _ => rfl), hm, aV F⟩
  exact (@au _ _ _ _ _ _ _ (cp (ax (aT.mono (by decide)) hr rfl aR aP aS (@af _ _ _ _ _ _ _ (ae 0) (@af _ _ _ _ _ _ _ aq (@af _ _ _ _ _ _ _ (c_ rfl av) aj rfl) rfl) rfl) (ai (ai (ai aw)))))
      (@aA _ _ _ _ _ (cp (ax (aT.mono (by decide)) hr rfl aR aP aS (@af _ _ _ _ _ _ _ (ae 1) (@af _ _ _ _ _ _ _ aq (@af _ _ _ _ _ _ _ (c_ rfl av) aj rfl) rfl) rfl) (ai (ai (ai aw)))))))
theorem iC : aQ ["size", "rows", "r", "k", "alone", "behind_others"] ["size", "rows", "r", "k"] (ar (aF 41)) := ⟨rfl, rfl, rfl, by decide +kernel, rfl, by decide +kernel, by decide +kernel⟩
theorem qE (D : aL K mg "both_next" (aF 41)) (T : Blt mg) : Has P w K mg base g "both_next" 1 ["size", "rows", "r", "k"] bY := by
  obtain ⟨f, fd, hm, F⟩ := D
  refine ⟨f, fd, dm F iC (fun cdv A outer s H E hr => ?_), F.kp, F.binds (fun _ _ _ _ _ _ us hl => IH hl fun _ _ _ _ => rfl), hm, aV F⟩
  exact (@au _ _ _ _ _ _ _ (@cL _ _ _ _ _ _ 4 _ _ iC.nd rfl (by first | exact Or.inl rfl | exact Or.inr rfl) (@f9 _ _ _ _ _ _ _ _ _ _ (@bA _ _ _ _ _ _ _ _ _ _ _ mJ mL (ae 2) aq (bu _)) (@bS _ _ _ _ _ _ _ _ _ _ bp bT (@bS _ _ _ _ _ _ _ _ _ _ bp bT (ae 1) (@aE _ _ _ _ _ _ _ _ _ _ _ dI dM (ae 2) aq) (fun _ _ => rfl)) (ae 3) (fun _ _ => rfl)) aq) rfl (.inl rfl))
      (@au _ _ _ _ _ _ _ (@cL _ _ _ _ _ _ 5 _ _ iC.nd rfl (by first | exact Or.inl rfl | exact Or.inr rfl) (@f9 _ _ _ _ _ _ _ _ _ _ (@bA _ _ _ _ _ _ _ _ _ _ _ mJ mL (ae 3) aq (bu _)) (@aE _ _ _ _ _ _ _ _ _ _ _ eW eM (@aE _ _ _ _ _ _ _ _ _ _ _ dI dM (ae 0) (ae 3)) (@bS _ _ _ _ _ _ _ _ _ _ bp bT (@bS _ _ _ _ _ _ _ _ _ _ bp bT (ae 1) (ae 2) (fun _ _ => rfl)) (@aE _ _ _ _ _ _ _ _ _ _ _ dI dM (ae 3) aq) (fun _ _ => rfl))) aq) rfl (.inl rfl))
      (@aA _ _ _ _ _ (@bq _ _ _ _ _ _ (@aE _ _ _ _ _ _ _ _ _ _ _ bK bJ (@aE _ _ _ _ _ _ _ _ _ _ _ bK bJ (ae 4) (@aE _ _ _ _ _ _ _ _ _ _ _ eW eM (ae 3) (@bS _ _ _ _ _ _ _ _ _ _ bp bT (@bS _ _ _ _ _ _ _ _ _ _ bp bT (ae 1) (ae 2) (fun _ _ => rfl)) (ae 3) (fun _ _ => rfl)))) (ae 5))))))
theorem eJ : aQ ["n", "every", "rows", "size"] ["n"] (ar (aF 40)) := ⟨rfl, rfl, rfl, by decide +kernel, rfl, by decide +kernel, by decide +kernel⟩
theorem qF (D : aL K mg "both_rows" (aF 40)) (T : Blt mg) (gv : Has P w K mg base g "both_next" 1 ["size", "rows", "r", "k"] bY) : Has P w K mg base g "both_rows" 2 ["n"] dB := by
  obtain ⟨f, fd, hm, F⟩ := D
  obtain ⟨Bt, AS, qt, qj, qu, qI, _⟩ := gv
  refine ⟨f, fd, dm F eJ (fun cdv A outer s H E hr => ?_), F.kp, F.binds (fun _ _ _ _ _ _ us hl => iW hl fun _ => rfl), hm, aV F⟩
  exact (@au _ _ _ _ _ _ _ (@cL _ _ _ _ _ _ 1 _ _ eJ.nd rfl (by first | exact Or.inl rfl | exact Or.inr rfl) (pG rfl rfl T.list rfl T.range (@af _ _ _ _ _ _ _ (@aE _ _ _ _ _ _ _ _ _ _ _ bK bJ (ae 0) aq) aj rfl)) rfl (.inl rfl))
      (@au _ _ _ _ _ _ _ (@cL _ _ _ _ _ _ 2 _ _ eJ.nd rfl (by first | exact Or.inl rfl | exact Or.inr rfl) (ug (osc := ar (aF 40)) [1] ["r", "every"] rfl rfl rfl rfl (by decide +kernel) ⟨by decide +kernel, rfl, rfl, by decide +kernel, rfl, by decide +kernel⟩ (@fU _ _ _ _ _ _ (ae 1))
        (fun cl C ay aB fp => jg) (fun cl C ay aB fp => (fc (osc := F9 _ (ar (aF 40))) [0] ["k", "r"] rfl rfl rfl rfl (by decide +kernel) ⟨by decide +kernel, by decide +kernel, rfl, by decide +kernel, rfl, by decide +kernel⟩ (@fU _ _ _ _ _ _ (ae 1))
        (fun cl C ay aB fp => jg) (fun cl C ay aB fp => (@f9 _ _ _ _ _ _ _ _ _ _ (PW.pt (@vv _ _ _ _ _ _ _ _ _ (@bA _ _ _ _ _ _ _ _ _ _ _ (jr hr.units) mN (ae 1) aq (bu _)) (@sF _ _ _ _ _ _ (@bA _ _ _ _ _ _ _ _ _ _ _ (jr hr.units) mN (ae 0) aq (bu _))))) aq aq))))) rfl (.inl rfl))
      (@au _ _ _ _ _ _ _ (gS PassesOwn.never rfl (nR rfl T.range (@af _ _ _ _ _ _ _ aq (@af _ _ _ _ _ _ _ (@aE _ _ _ _ _ _ _ _ _ _ _ bK bJ (ae 0) aq) aj rfl) rfl)) (bw (i := 3) eJ.nd rfl (by first | exact Or.inl rfl | exact Or.inr rfl)) fD (@aA _ _ _ _ _ (@cL _ _ _ _ _ _ 2 _ _ eJ.nd rfl (by first | exact Or.inl rfl | exact Or.inr rfl) (ug (osc := ar (aF 40)) [3, 2, 1] ["r", "size", "rows", "every"] rfl rfl rfl rfl (by decide +kernel) ⟨by decide +kernel, rfl, rfl, by decide +kernel, rfl, by decide +kernel⟩ (@fU _ _ _ _ _ _ (ae 1))
        (fun cl C ay aB fp => jg) (fun cl C ay aB fp => (fc (osc := F9 _ (ar (aF 40))) [1, 2, 0] ["k", "size", "rows", "r"] rfl rfl rfl rfl (by decide +kernel) ⟨by decide +kernel, by decide +kernel, rfl, by decide +kernel, rfl, by decide +kernel⟩ (@fU _ _ _ _ _ _ (ae 3))
        (fun cl C ay aB fp => jg) (fun cl C ay aB fp => (ax (qt.mono (by decide)) hr rfl qI qj qu (@af _ _ _ _ _ _ _ (ae 1) (@af _ _ _ _ _ _ _ (ae 2) (@af _ _ _ _ _ _ _ (ae 3) (@af _ _ _ _ _ _ _ (ae 0) aj rfl) rfl) rfl) rfl) (ai (ai (ai (ai aw))))))))) rfl (.inl rfl))))
      (@aA _ _ _ _ _ (@bq _ _ _ _ _ _ (ae 2))))))
theorem m_ : aQ ["n", "r", "k"] ["n", "r", "k"] (ar (aF 39)) := ⟨rfl, rfl, rfl, by decide +kernel, rfl, by decide +kernel, by decide +kernel⟩
theorem lU (D : aL K mg "both_counted" (aF 39)) (T : Blt mg) (di : Has P w K mg base g "both_rows" 2 ["n"] dB) : Has P w K mg base g "both_counted" 3 ["n", "r", "k"] cQ := by
  obtain ⟨f, fd, hm, F⟩ := D
  obtain ⟨qp, oy, gp, gG, gD, gH, _⟩ := di
  refine ⟨f, fd, dm F m_ (fun cdv A outer s H E hr => ?_), F.kp, F.binds (fun _ _ _ _ _ _ us hl => vV hl fun _ _ _ => rfl), hm, aV F⟩
  exact (@aA _ _ _ _ _ (@bq _ _ _ _ _ _ (@f9 _ _ _ _ _ _ _ _ _ _ (PW.pt (@vv _ _ _ _ _ _ _ _ _ (@bA _ _ _ _ _ _ _ _ _ _ _ mV mK (ae 1) (ae 0) (bu _)) (@sF _ _ _ _ _ _ (@bA _ _ _ _ _ _ _ _ _ _ _ mV mK (ae 2) (ae 0) (bu _))))) (@bS _ _ _ _ _ _ _ _ _ _ bp bT (@bS _ _ _ _ _ _ _ _ _ _ bp bT (ax (gp.mono (by decide)) hr rfl gH gG gD (@af _ _ _ _ _ _ _ (ae 0) aj rfl) (ai aw)) (ae 1) (fun _ _ => rfl)) (ae 2) (fun _ _ => rfl)) aq)))
theorem qC : aQ ["n", "r", "k"] ["n", "r", "k"] (ar (aF 36)) := ⟨rfl, rfl, rfl, by decide +kernel, rfl, by decide +kernel, by decide +kernel⟩
theorem oA (D : aL K mg "both_count" (aF 36)) (T : Blt mg) {aZ : Tok} (av : mg "MOST_NUMBERS_rounds" = some (.int 20 aZ)) (aJ : Has P w K mg base g "number_needed" 3 ["thing", "least", "most"] aK) (eB : Has P w K mg base g "counts_needed" 4 ["r", "k"] cq) (eT : Has P w K mg base g "both_counted" 3 ["n", "r", "k"] cQ) : Has P w K mg base g "both_count" 5 ["n", "r", "k"] bo := by
  obtain ⟨f, fd, hm, F⟩ := D
  obtain ⟨dv, cW, aT, aP, aS, aR, _⟩ := aJ
  obtain ⟨xC, wd, kI, kO, lj, lF, _⟩ := eB
  obtain ⟨yw, wO, md, lV, lR, mC, _⟩ := eT
  refine ⟨f, fd, dm F qC (fun cdv A outer s H E hr => ?_), F.kp, F.binds (fun _ _ _ _ _ _ us hl => vV hl fun _ _ _ => rfl), hm, aV F⟩
  exact (@au _ _ _ _ _ _ _ (cp (ax (aT.mono (by decide)) hr rfl aR aP aS (@af _ _ _ _ _ _ _ (ae 0) (@af _ _ _ _ _ _ _ aq (@af _ _ _ _ _ _ _ (c_ rfl av) aj rfl) rfl) rfl) (ai (ai (ai aw)))))
      (@au _ _ _ _ _ _ _ (cp (ax (kI.mono (by decide)) hr rfl lF kO lj (@af _ _ _ _ _ _ _ (ae 1) (@af _ _ _ _ _ _ _ (ae 2) aj rfl) rfl) (ai (ai aw))))
      (@aA _ _ _ _ _ (@bq _ _ _ _ _ _ (ax (md.mono (by decide)) hr rfl mC lV lR (@af _ _ _ _ _ _ _ (ae 0) (@af _ _ _ _ _ _ _ (ae 1) (@af _ _ _ _ _ _ _ (ae 2) aj rfl) rfl) rfl) (ai (ai (ai aw))))))))
theorem kU : aQ ["n", "k"] ["n", "k"] (ar (aF 20)) := ⟨rfl, rfl, rfl, by decide +kernel, rfl, by decide +kernel, by decide +kernel⟩
theorem kc (D : aL K mg "numbers_needed" (aF 20)) (T : Blt mg) {jW : Tok} (e9 : mg "MOST_LISTED" = some (.int 12 jW)) (aJ : Has P w K mg base g "number_needed" 3 ["thing", "least", "most"] aK) : Has P w K mg base g "numbers_needed" 4 ["n", "k"] cN := by
  obtain ⟨f, fd, hm, F⟩ := D
  obtain ⟨dv, cW, aT, aP, aS, aR, _⟩ := aJ
  refine ⟨f, fd, dm F kU (fun cdv A outer s H E hr => ?_), F.kp, F.binds (fun _ _ _ _ _ _ us hl => p8 hl fun _ _ => rfl), hm, aV F⟩
  exact (@au _ _ _ _ _ _ _ (cp (ax (aT.mono (by decide)) hr rfl aR aP aS (@af _ _ _ _ _ _ _ (ae 0) (@af _ _ _ _ _ _ _ aq (@af _ _ _ _ _ _ _ (c_ rfl e9) aj rfl) rfl) rfl) (ai (ai (ai aw)))))
      (@aA _ _ _ _ _ (cp (ax (aT.mono (by decide)) hr rfl aR aP aS (@af _ _ _ _ _ _ _ (ae 1) (@af _ _ _ _ _ _ _ aq (@af _ _ _ _ _ _ _ (c_ rfl e9) aj rfl) rfl) rfl) (ai (ai (ai aw)))))))
theorem gn : aQ ["n", "thing", "number"] ["n", "thing"] (ar (aF 21)) := ⟨rfl, rfl, rfl, by decide +kernel, rfl, by decide +kernel, by decide +kernel⟩
theorem ka (D : aL K mg "beginning_good" (aF 21)) (T : Blt mg) (bQ : Has P w K mg base g "is_within" 2 ["thing", "least", "most"] bZ) : Has P w K mg base g "beginning_good" 3 ["n", "thing"] cR := by
  obtain ⟨f, fd, hm, F⟩ := D
  obtain ⟨jZ, iZ, dS, dP, dR, dO, _⟩ := bQ
  refine ⟨f, fd, dU (dm F gn (fun cdv A outer s H E hr => ?_)), F.kp, F.binds (fun _ _ _ _ _ _ us hl => p8 hl fun _ _ => rfl), hm, aV F⟩
  exact (@au _ _ _ _ _ _ _ (@iV _ _ _ _ _ _ _ _ _ _ (PW.pt (@vg _ _ _ _ _ _ _ _ _ (@jl _ _ _ _ _ _ (@fR _ _ _ _ _ _ kz (sY (ae 1) rfl T.isinstance rfl T.tuple PyProof.Rows.boot_tuple) (fun _ => rfl))) (@sg _ _ _ _ _ _ (@bA _ _ _ _ _ _ _ _ _ _ _ mJ mL (aN bH bE rfl T.len PySem.boot_len (@af _ _ _ _ _ _ _ (ae 1) aj rfl)) (ae 0) (bu _))))) (@aA _ _ _ _ _ (@bq _ _ _ _ _ _ gR)) cz)
      (@au _ _ _ _ _ _ _ (gS PassesOwn.never rfl (@fU _ _ _ _ _ _ (ae 1)) (bw (i := 2) gn.nd rfl (by first | exact Or.inl rfl | exact Or.inr rfl)) fD (@aA _ _ _ _ _ (@iV _ _ _ _ _ _ _ _ _ _ (@jl _ _ _ _ _ _ (@fR _ _ _ _ _ _ kz (ax (dS.mono (by decide)) hr rfl dO dP dR (@af _ _ _ _ _ _ _ (ae 2) (@af _ _ _ _ _ _ _ aq (@af _ _ _ _ _ _ _ (@aE _ _ _ _ _ _ _ _ _ _ _ dI dM (ae 0) aq) aj rfl) rfl) rfl) (ai (ai (ai aw)))) (fun _ => rfl))) (@aA _ _ _ _ _ (@bq _ _ _ _ _ _ gR)) cz)))
      (@aA _ _ _ _ _ (@bq _ _ _ _ _ _ (@vH _ _ _ _ _ _ _ _ _ _ _ (jr hr.units) mN (aN bH bE rfl T.len PySem.boot_len (@af _ _ _ _ _ _ _ (cu (kR rfl) AR rfl T.set PyProof.Rows.boot_set (@af _ _ _ _ _ _ _ (ae 1) aj rfl)) aj rfl)) (aN bH bE rfl T.len PySem.boot_len (@af _ _ _ _ _ _ _ (ae 1) aj rfl)) (bu _))))))
theorem jO : aQ ["n", "thing"] ["n", "thing"] (ar (aF 22)) := ⟨rfl, rfl, rfl, by decide +kernel, rfl, by decide +kernel, by decide +kernel⟩
theorem jm (D : aL K mg "beginning_needed" (aF 22)) (T : Blt mg) (dX : Has P w K mg base g "beginning_good" 3 ["n", "thing"] cR) : Has P w K mg base g "beginning_needed" 4 ["n", "thing"] cc := by
  obtain ⟨f, fd, hm, F⟩ := D
  obtain ⟨vN, vi, kA, kn, kd, kC, _⟩ := dX
  refine ⟨f, fd, dm F jO (fun cdv A outer s H E hr => ?_), F.kp, F.binds (fun _ _ _ _ _ _ us hl => p8 hl fun _ _ => rfl), hm, aV F⟩
  exact (@aA _ _ _ _ _ (@iV _ _ _ _ _ _ _ _ _ _ (@jl _ _ _ _ _ _ (@fR _ _ _ _ _ _ kz (ax (kA.mono (by decide)) hr rfl kC kn kd (@af _ _ _ _ _ _ _ (ae 0) (@af _ _ _ _ _ _ _ (ae 1) aj rfl) rfl) (ai (ai aw))) (fun _ => rfl))) (@aA _ _ _ _ _ (PS.imp pL fun E σ H ⟨α, env, h, s, w⟩ => w.elim)) cz))
theorem qz : aQ ["begun"] ["begun"] (ar (aF 26)) := ⟨rfl, rfl, rfl, by decide +kernel, rfl, by decide +kernel, by decide +kernel⟩
theorem pF (D : aL K mg "lower_left" (aF 26)) (T : Blt mg) : Has P w K mg base g "lower_left" 1 ["begun"] fE := by
  obtain ⟨f, fd, hm, F⟩ := D
  refine ⟨f, fd, dm F qz (fun cdv A outer s H E hr => ?_), F.kp, F.binds (fun _ _ _ _ _ _ us hl => iW hl fun _ => rfl), hm, aV F⟩
  exact (@au _ _ _ _ _ _ _ (@iV _ _ _ _ _ _ _ _ _ _ (@bA _ _ _ _ _ _ _ _ _ _ _ (jr hr.units) mN (aN bH bE rfl T.len PySem.boot_len (@af _ _ _ _ _ _ _ (ae 0) aj rfl)) aq (bu _)) (@aA _ _ _ _ _ (@bq _ _ _ _ _ _ aq)) cz)
      (@aA _ _ _ _ _ (@bq _ _ _ _ _ _ (@aE _ _ _ _ _ _ _ _ _ _ _ dI dM (@bS _ _ _ _ _ _ _ _ _ _ bp bT (ae 0) (@ou _ _ _ _ _ _ _ _ _ jB km aq) (fun _ _ => rfl)) (aN bH bE rfl T.len PySem.boot_len (@af _ _ _ _ _ _ _ (fc (osc := ar (aF 26)) [0] ["number", "begun"] rfl rfl rfl rfl (by decide +kernel) ⟨by decide +kernel, by decide +kernel, rfl, by decide +kernel, rfl, by decide +kernel⟩ (@fU _ _ _ _ _ _ (ae 0))
        (fun cl C ay aB fp => (mj (@bA _ _ _ _ _ _ _ _ _ _ _ u_ uX (ae 0) (@bS _ _ _ _ _ _ _ _ _ _ bp bT (ae 1) (@ou _ _ _ _ _ _ _ _ _ jB km aq) (fun _ _ => rfl)) (bu _)))) (fun cl C ay aB fp => (ae 0))) aj rfl))))))
theorem gc : aQ ["rests", "k", "begun", "counts", "falls"] ["rests", "k", "begun"] (ar (aF 25)) := ⟨rfl, rfl, rfl, by decide +kernel, rfl, by decide +kernel, by decide +kernel⟩
theorem nJ (D : aL K mg "begun_count" (aF 25)) (T : Blt mg) (gb : Has P w K mg base g "lower_left" 1 ["begun"] fE) (dC : Has P w K mg base g "falls_in" 1 ["numbers"] dz) : Has P w K mg base g "begun_count" 2 ["rests", "k", "begun"] cB := by
  obtain ⟨f, fd, hm, F⟩ := D
  obtain ⟨AM, yP, oF, pP, oK, oU, _⟩ := gb
  obtain ⟨tV, qB, h8, h_, iK, hX, _⟩ := dC
  refine ⟨f, fd, dm F gc (fun cdv A outer s H E hr => ?_), F.kp, F.binds (fun _ _ _ _ _ _ us hl => vV hl fun _ _ _ => rfl), hm, aV F⟩
  exact (@au _ _ _ _ _ _ _ (@cL _ _ _ _ _ _ 3 _ _ gc.nd rfl (by first | exact Or.inl rfl | exact Or.inr rfl) (@bS _ _ _ _ _ _ _ _ _ _ bp bT (@bS _ _ _ _ _ _ _ _ _ _ bp bT (ae 0) (@aE _ _ _ _ _ _ _ _ _ _ _ dI dM (@aE _ _ _ _ _ _ _ _ _ _ _ dI dM (aN bH bE rfl T.len PySem.boot_len (@af _ _ _ _ _ _ _ (ae 0) aj rfl)) aq) (aN bH bE rfl T.len PySem.boot_len (@af _ _ _ _ _ _ _ (ae 2) aj rfl))) (fun _ _ => rfl)) (ax (oF.mono (by decide)) hr rfl oU pP oK (@af _ _ _ _ _ _ _ (ae 2) aj rfl) (ai aw)) (fun _ _ => rfl)) rfl (.inl rfl))
      (@au _ _ _ _ _ _ _ (@cL _ _ _ _ _ _ 4 _ _ gc.nd rfl (by first | exact Or.inl rfl | exact Or.inr rfl) (@aE _ _ _ _ _ _ _ _ _ _ _ dI dM (ae 1) (aN bH bE rfl T.len PySem.boot_len (@af _ _ _ _ _ _ _ (ax (h8.mono (by decide)) hr rfl hX h_ iK (@af _ _ _ _ _ _ _ (ae 2) aj rfl) (ai aw)) aj rfl))) rfl (.inl rfl))
      (@aA _ _ _ _ _ (@bq _ _ _ _ _ _ (@f9 _ _ _ _ _ _ _ _ _ _ (uZ mV u_ mK uX aq (ae 4) (aN bH bE rfl T.len PySem.boot_len (@af _ _ _ _ _ _ _ (ae 3) aj rfl))) (@bS _ _ _ _ _ _ _ _ _ _ bp bT (ae 3) (ae 4) (fun _ _ => rfl)) aq)))))
theorem b9 : aQ ["fewer", "lower", "counts", "rank", "rest", "fall", "falls", "many"] ["fewer", "lower"] (ar (aF 24)) := ⟨rfl, rfl, rfl, by decide +kernel, rfl, by decide +kernel, by decide +kernel⟩
theorem nj (D : aL K mg "rest_counts" (aF 24)) (T : Blt mg) : Has P w K mg base g "rest_counts" 1 ["fewer", "lower"] cI := by
  obtain ⟨f, fd, hm, F⟩ := D
  refine ⟨f, fd, lN (dU (dm F b9 (fun cdv A outer s H E hr => ?_))), F.kp, F.binds (fun _ _ _ _ _ _ us hl => p8 hl fun _ _ => rfl), hm, aV F⟩
  exact (@au _ _ _ _ _ _ _ (@cL _ _ _ _ _ _ 2 _ _ b9.nd rfl (by first | exact Or.inl rfl | exact Or.inr rfl) (@aE _ _ _ _ _ _ _ _ _ _ _ eW eM (@eh _ _ _ _ _ _ _ _ (@af _ _ _ _ _ _ _ aq aj rfl)) (@aE _ _ _ _ _ _ _ _ _ _ _ bK bJ (aN bH bE rfl T.len PySem.boot_len (@af _ _ _ _ _ _ _ (ae 0) aj rfl)) aq)) rfl (.inl rfl))
      (@au _ _ _ _ _ _ _ (gS PassesOwn.never rfl (kN rfl T.enumerate (ae 0)) (mD rfl (cZ (bw (i := 3) b9.nd rfl (by first | exact Or.inl rfl | exact Or.inr rfl)) (cZ (bw (i := 4) b9.nd rfl (by first | exact Or.inl rfl | exact Or.inr rfl)) jK))) oq (@au _ _ _ _ _ _ _ (@cL _ _ _ _ _ _ 5 _ _ b9.nd rfl (by first | exact Or.inl rfl | exact Or.inr rfl) (@f9 _ _ _ _ _ _ _ _ _ _ (@bA _ _ _ _ _ _ _ _ _ _ _ u_ uX (ae 3) (ae 1) (bu _)) aq aq) rfl (.inl rfl))
      (@aA _ _ _ _ _ (gS PassesOwn.never rfl (kN rfl T.enumerate (ae 4)) (mD rfl (cZ (bw (i := 6) b9.nd rfl (by first | exact Or.inl rfl | exact Or.inr rfl)) (cZ (bw (i := 7) b9.nd rfl (by first | exact Or.inl rfl | exact Or.inr rfl)) jK))) oq (@aA _ _ _ _ _ (Dm (ae 2) (@aE _ _ _ _ _ _ _ _ _ _ _ bK bJ (ae 6) (ae 5)) (ae 7)))))))
      (@aA _ _ _ _ _ (@bq _ _ _ _ _ _ (ae 2)))))
theorem jx : aQ ["n", "rests", "left"] ["n"] (ar (aF 23)) := ⟨rfl, rfl, rfl, by decide +kernel, rfl, by decide +kernel, by decide +kernel⟩
theorem tT (D : aL K mg "rests_of" (aF 23)) (T : Blt mg) (fv : Has P w K mg base g "rest_counts" 1 ["fewer", "lower"] cI) : Has P w K mg base g "rests_of" 2 ["n"] gg := by
  obtain ⟨f, fd, hm, F⟩ := D
  obtain ⟨yS, yJ, nq, nu, m6, mZ, _⟩ := fv
  refine ⟨f, fd, lN (dU (dm F jx (fun cdv A outer s H E hr => ?_))), F.kp, F.binds (fun _ _ _ _ _ _ us hl => iW hl fun _ => rfl), hm, aV F⟩
  exact (@au _ _ _ _ _ _ _ (@cL _ _ _ _ _ _ 1 _ _ jx.nd rfl (by first | exact Or.inl rfl | exact Or.inr rfl) (@eh _ _ _ _ _ _ _ _ (@af _ _ _ _ _ _ _ (@eh _ _ _ _ _ _ _ _ (@af _ _ _ _ _ _ _ (@eh _ _ _ _ _ _ _ _ (@af _ _ _ _ _ _ _ aq aj rfl)) aj rfl)) aj rfl)) rfl (.inl rfl))
      (@au _ _ _ _ _ _ _ (gS PassesOwn.never rfl (nR rfl T.range (@af _ _ _ _ _ _ _ aq (@af _ _ _ _ _ _ _ (@aE _ _ _ _ _ _ _ _ _ _ _ bK bJ (ae 0) aq) aj rfl) rfl)) (bw (i := 2) jx.nd rfl (by first | exact Or.inl rfl | exact Or.inr rfl)) fD (@aA _ _ _ _ _ (cp (sU PySem.F.slot_list_append PySem.F.type_list_append fG l5 (ae 1) (@af _ _ _ _ _ _ _ (fc (osc := ar (aF 23)) [1] ["lower", "rests"] rfl rfl rfl rfl (by decide +kernel) ⟨by decide +kernel, by decide +kernel, rfl, by decide +kernel, rfl, by decide +kernel⟩ (g_ rfl T.range (@af _ _ _ _ _ _ _ (@aE _ _ _ _ _ _ _ _ _ _ _ bK bJ (ae 2) aq) aj rfl))
        (fun cl C ay aB fp => jg) (fun cl C ay aB fp => (ax (nq.mono (by decide)) hr rfl mZ nu m6 (@af _ _ _ _ _ _ _ (@bS _ _ _ _ _ _ _ _ _ _ bp bT (ae 1) (@ou _ _ _ _ _ _ _ _ _ jB km aq) (fun _ _ => rfl)) (@af _ _ _ _ _ _ _ (ae 0) aj rfl) rfl) (ai (ai aw))))) aj rfl)))))
      (@aA _ _ _ _ _ (@bq _ _ _ _ _ _ (ae 1)))))
theorem qf : aQ ["n", "k", "begun"] ["n", "k", "begun"] (ar (aF 19)) := ⟨rfl, rfl, rfl, by decide +kernel, rfl, by decide +kernel, by decide +kernel⟩
theorem oR (D : aL K mg "begun_many" (aF 19)) (T : Blt mg) (dW : Has P w K mg base g "numbers_needed" 4 ["n", "k"] cN) (dw : Has P w K mg base g "beginning_needed" 4 ["n", "thing"] cc) (fk : Has P w K mg base g "begun_count" 2 ["rests", "k", "begun"] cB) (g6 : Has P w K mg base g "rests_of" 2 ["n"] gg) : Has P w K mg base g "begun_many" 5 ["n", "k", "begun"] bI := by
  obtain ⟨f, fd, hm, F⟩ := D
  obtain ⟨wA, vh, j4, kH, ku, j5, _⟩ := dW
  obtain ⟨uh, tW, i6, jy, jb, jn, _⟩ := dw
  obtain ⟨yV, xT, nv, ng, nL, nk, _⟩ := fk
  obtain ⟨B4, Bu, sL, sH, si, rT, _⟩ := g6
  refine ⟨f, fd, dm F qf (fun cdv A outer s H E hr => ?_), F.kp, F.binds (fun _ _ _ _ _ _ us hl => vV hl fun _ _ _ => rfl), hm, aV F⟩
  exact (@au _ _ _ _ _ _ _ (cp (ax (j4.mono (by decide)) hr rfl j5 kH ku (@af _ _ _ _ _ _ _ (ae 0) (@af _ _ _ _ _ _ _ (ae 1) aj rfl) rfl) (ai (ai aw))))
      (@au _ _ _ _ _ _ _ (cp (ax (i6.mono (by decide)) hr rfl jn jy jb (@af _ _ _ _ _ _ _ (ae 0) (@af _ _ _ _ _ _ _ (ae 2) aj rfl) rfl) (ai (ai aw))))
      (@aA _ _ _ _ _ (@bq _ _ _ _ _ _ (ax (nv.mono (by decide)) hr rfl nk ng nL (@af _ _ _ _ _ _ _ (ax (sL.mono (by decide)) hr rfl rT sH si (@af _ _ _ _ _ _ _ (ae 0) aj rfl) (ai aw)) (@af _ _ _ _ _ _ _ (ae 1) (@af _ _ _ _ _ _ _ (ae 2) aj rfl) rfl) rfl) (ai (ai (ai aw))))))))
theorem nI : aQ ["n", "r"] ["n", "r"] (ar (aF 35)) := ⟨rfl, rfl, rfl, by decide +kernel, rfl, by decide +kernel, by decide +kernel⟩
theorem lZ (D : aL K mg "rounds_count" (aF 35)) (T : Blt mg) {aZ : Tok} (av : mg "MOST_NUMBERS_rounds" = some (.int 20 aZ)) (aJ : Has P w K mg base g "number_needed" 3 ["thing", "least", "most"] aK) (di : Has P w K mg base g "both_rows" 2 ["n"] dB) : Has P w K mg base g "rounds_count" 4 ["n", "r"] cj := by
  obtain ⟨f, fd, hm, F⟩ := D
  obtain ⟨dv, cW, aT, aP, aS, aR, _⟩ := aJ
  obtain ⟨qp, oy, gp, gG, gD, gH, _⟩ := di
  refine ⟨f, fd, dm F nI (fun cdv A outer s H E hr => ?_), F.kp, F.binds (fun _ _ _ _ _ _ us hl => p8 hl fun _ _ => rfl), hm, aV F⟩
  exact (@au _ _ _ _ _ _ _ (cp (ax (aT.mono (by decide)) hr rfl aR aP aS (@af _ _ _ _ _ _ _ (ae 0) (@af _ _ _ _ _ _ _ aq (@af _ _ _ _ _ _ _ (c_ rfl av) aj rfl) rfl) rfl) (ai (ai (ai aw)))))
      (@au _ _ _ _ _ _ _ (cp (ax (aT.mono (by decide)) hr rfl aR aP aS (@af _ _ _ _ _ _ _ (ae 1) (@af _ _ _ _ _ _ _ aq (@af _ _ _ _ _ _ _ (c_ rfl av) aj rfl) rfl) rfl) (ai (ai (ai aw)))))
      (@aA _ _ _ _ _ (@bq _ _ _ _ _ _ (@f9 _ _ _ _ _ _ _ _ _ _ (@bA _ _ _ _ _ _ _ _ _ _ _ mV mK (ae 1) (ae 0) (bu _)) (aN (l7 rfl) vO rfl T.sum PyProof.Rows.boot_sum (@af _ _ _ _ _ _ _ (@bS _ _ _ _ _ _ _ _ _ _ bp bT (ax (gp.mono (by decide)) hr rfl gH gG gD (@af _ _ _ _ _ _ _ (ae 0) aj rfl) (ai aw)) (ae 1) (fun _ _ => rfl)) aj rfl)) aq)))))
theorem i_ : aQ ["size", "before", "row", "counts", "k"] ["size", "before", "row"] (ar (aF 42)) := ⟨rfl, rfl, rfl, by decide +kernel, rfl, by decide +kernel, by decide +kernel⟩
theorem sS (D : aL K mg "none_row" (aF 42)) (T : Blt mg) : Has P w K mg base g "none_row" 1 ["size", "before", "row"] eQ := by
  obtain ⟨f, fd, hm, F⟩ := D
  refine ⟨f, fd, lN (dU (dm F i_ (fun cdv A outer s H E hr => ?_))), F.kp, F.binds (fun _ _ _ _ _ _ us hl => vV hl fun _ _ _ => rfl), hm, aV F⟩
  exact (@au _ _ _ _ _ _ _ (@cL _ _ _ _ _ _ 3 _ _ i_.nd rfl (by first | exact Or.inl rfl | exact Or.inr rfl) (@aE _ _ _ _ _ _ _ _ _ _ _ eW eM (@eh _ _ _ _ _ _ _ _ (@af _ _ _ _ _ _ _ aq aj rfl)) (aN bH bE rfl T.len PySem.boot_len (@af _ _ _ _ _ _ _ (ae 2) aj rfl))) rfl (.inl rfl))
      (@au _ _ _ _ _ _ _ (gS PassesOwn.never rfl (nR rfl T.range (@af _ _ _ _ _ _ _ aq (@af _ _ _ _ _ _ _ (aN bH bE rfl T.len PySem.boot_len (@af _ _ _ _ _ _ _ (ae 2) aj rfl)) aj rfl) rfl)) (bw (i := 4) i_.nd rfl (by first | exact Or.inl rfl | exact Or.inr rfl)) fD (@aA _ _ _ _ _ (jJ (@aE _ _ _ _ _ _ _ _ _ _ _ bK bJ (@aE _ _ _ _ _ _ _ _ _ _ _ bK bJ (@aE _ _ _ _ _ _ _ _ _ _ _ eW eM (ae 4) (@bS _ _ _ _ _ _ _ _ _ _ bp bT (ae 2) (ae 4) (fun _ _ => rfl))) (@aE _ _ _ _ _ _ _ _ _ _ _ eW eM (@aE _ _ _ _ _ _ _ _ _ _ _ dI dM (ae 0) (ae 4)) (@bS _ _ _ _ _ _ _ _ _ _ bp bT (ae 2) (@aE _ _ _ _ _ _ _ _ _ _ _ dI dM (ae 4) aq) (fun _ _ => rfl)))) (@aE _ _ _ _ _ _ _ _ _ _ _ eW eM (@aE _ _ _ _ _ _ _ _ _ _ _ dI dM (ae 0) aq) (@bS _ _ _ _ _ _ _ _ _ _ bp bT (ae 1) (@aE _ _ _ _ _ _ _ _ _ _ _ dI dM (ae 4) aq) (fun _ _ => rfl)))) (ae 3) (ae 4) set_list f6)))
      (@aA _ _ _ _ _ (@bq _ _ _ _ _ _ (ae 3)))))
theorem eY : aQ ["n", "k", "before", "row", "size"] ["n", "k"] (ar (aF 37)) := ⟨rfl, rfl, rfl, by decide +kernel, rfl, by decide +kernel, by decide +kernel⟩
theorem oN (D : aL K mg "none_count" (aF 37)) (T : Blt mg) {aZ : Tok} (av : mg "MOST_NUMBERS_rounds" = some (.int 20 aZ)) (aJ : Has P w K mg base g "number_needed" 3 ["thing", "least", "most"] aK) (ic : Has P w K mg base g "none_row" 1 ["size", "before", "row"] eQ) : Has P w K mg base g "none_count" 4 ["n", "k"] cV := by
  obtain ⟨f, fd, hm, F⟩ := D
  obtain ⟨dv, cW, aT, aP, aS, aR, _⟩ := aJ
  obtain ⟨Dk, BA, tD, sC, rM, rV, _⟩ := ic
  refine ⟨f, fd, dm F eY (fun cdv A outer s H E hr => ?_), F.kp, F.binds (fun _ _ _ _ _ _ us hl => p8 hl fun _ _ => rfl), hm, aV F⟩
  exact (@au _ _ _ _ _ _ _ (cp (ax (aT.mono (by decide)) hr rfl aR aP aS (@af _ _ _ _ _ _ _ (ae 0) (@af _ _ _ _ _ _ _ aq (@af _ _ _ _ _ _ _ (c_ rfl av) aj rfl) rfl) rfl) (ai (ai (ai aw)))))
      (@au _ _ _ _ _ _ _ (cp (ax (aT.mono (by decide)) hr rfl aR aP aS (@af _ _ _ _ _ _ _ (ae 1) (@af _ _ _ _ _ _ _ aq (@af _ _ _ _ _ _ _ (c_ rfl av) aj rfl) rfl) rfl) (ai (ai (ai aw)))))
      (@au _ _ _ _ _ _ _ (AK (i := 2) (j := 3) rfl eY.nd rfl rfl (by decide) (@af _ _ _ _ _ _ _ (@aE _ _ _ _ _ _ _ _ _ _ _ bK bJ (@eh _ _ _ _ _ _ _ _ (@af _ _ _ _ _ _ _ aq aj rfl)) (@aE _ _ _ _ _ _ _ _ _ _ _ eW eM (@eh _ _ _ _ _ _ _ _ (@af _ _ _ _ _ _ _ aq aj rfl)) (c_ rfl av))) (@af _ _ _ _ _ _ _ (@aE _ _ _ _ _ _ _ _ _ _ _ eW eM (@eh _ _ _ _ _ _ _ _ (@af _ _ _ _ _ _ _ aq aj rfl)) (@aE _ _ _ _ _ _ _ _ _ _ _ bK bJ (c_ rfl av) aq)) aj rfl) rfl))
      (@au _ _ _ _ _ _ _ (gS PassesOwn.never rfl (nR rfl T.range (@af _ _ _ _ _ _ _ aq (@af _ _ _ _ _ _ _ (@aE _ _ _ _ _ _ _ _ _ _ _ bK bJ (ae 0) aq) aj rfl) rfl)) (bw (i := 4) eY.nd rfl (by first | exact Or.inl rfl | exact Or.inr rfl)) fD (@aA _ _ _ _ _ (AK (i := 2) (j := 3) rfl eY.nd rfl rfl (by decide) (@af _ _ _ _ _ _ _ (ae 3) (@af _ _ _ _ _ _ _ (ax (tD.mono (by decide)) hr rfl rV sC rM (@af _ _ _ _ _ _ _ (ae 4) (@af _ _ _ _ _ _ _ (ae 2) (@af _ _ _ _ _ _ _ (ae 3) aj rfl) rfl) rfl) (ai (ai (ai aw)))) aj rfl) rfl))))
      (@aA _ _ _ _ _ (@bq _ _ _ _ _ _ (@bS _ _ _ _ _ _ _ _ _ _ bp bT (ae 3) (ae 1) (fun _ _ => rfl))))))))
theorem gL : aQ ["_law_script", "_law_cell", "_law_pen", "_law_n", "_law_order_here", "_law_own", "_law_one", "_law_tops", "_law_k", "_law_r"] ["_law_script"] (ar (aF 49)) := ⟨rfl, rfl, rfl, by decide +kernel, rfl, by decide +kernel, by decide +kernel⟩
theorem BE (D : aL K mg "law" (aF 49)) (T : Blt mg) (eV : Has P w K mg base g "_law_cell_at" 1 ["_law_script", "_law_k"] b_) (fw : Has P w K mg base g "_law_pen_of" 1 ["_law_cell"] cG) (dh : Has P w K mg base g "_law_draw" 2 ["_law_pen", "_law_many"] aM) (fQ : Has P w K mg base g "_law_order" 3 ["_law_pen", "_law_n"] cA) (iF : Has P w K mg base g "lifts_of" 5 ["order"] cH) (iD : Has P w K mg base g "drops_of" 5 ["order"] bN) (oY : Has P w K mg base g "laid" 6 ["order"] j3) (cS : Has P w K mg base g "order_good" 3 ["thing"] bx) (de : Has P w K mg base g "rounds_of" 5 ["order"] cw) (fK : Has P w K mg base g "falls_many" 6 ["order"] cT) (oS : Has P w K mg base g "back" 5 ["order"] j7) (iQ : Has P w K mg base g "taken_up" 5 ["order"] d8) (fY : Has P w K mg base g "both_count" 5 ["n", "r", "k"] bo) (gi : Has P w K mg base g "begun_many" 5 ["n", "k", "begun"] bI) (eS : Has P w K mg base g "rounds_count" 4 ["n", "r"] cj) (fO : Has P w K mg base g "none_count" 4 ["n", "k"] cV) : Has P w K mg base g "law" 7 ["_law_script"] n_ := by
  obtain ⟨f, fd, hm, F⟩ := D
  obtain ⟨yf, w8, mG, mB, mq, l9, _⟩ := eV
  obtain ⟨yN, yg, nE, ny, nB, nz, _⟩ := fw
  obtain ⟨qm, pM, dk, df, dg, dj, _⟩ := dh
  obtain ⟨AO, yM, oD, o9, oE, oh, _⟩ := fQ
  obtain ⟨BU, Bw, lq, lu, lH, kL, _⟩ := iF
  obtain ⟨C2, Bv, iL, iP, iz, g9, _⟩ := iD
  obtain ⟨GB, FQ, Ay, AH, Be, zK, _⟩ := oY
  obtain ⟨pX, m9, eD, eg, eF, eH, _⟩ := cS
  obtain ⟨qA, qb, gB, gx, gE, gF, _⟩ := de
  obtain ⟨Bn, yU, pY, pk, pU, oQ, _⟩ := fK
  obtain ⟨Hd, FP, Ab, zZ, A4, zW, _⟩ := oS
  obtain ⟨CB, Bz, rX, tK, r_, sO, _⟩ := iQ
  obtain ⟨zD, yO, jh, i9, i5, jD, _⟩ := fY
  obtain ⟨zb, yQ, js, jv, ja, jz, _⟩ := gi
  obtain ⟨yD, xx, l6, mm, my, mF, _⟩ := eS
  obtain ⟨AV, yT, pe, pI, oz, oG, _⟩ := fO
  refine ⟨f, fd, dU (dm F gL (fun cdv A outer s H E hr => ?_)), F.kp, F.binds (fun _ _ _ _ _ _ us hl => iW hl fun _ => rfl), hm, aV F⟩
  exact (@au _ _ _ _ _ _ _ (gS PassesOwn.never rfl (@fU _ _ _ _ _ _ (@aE _ _ _ _ _ _ _ _ _ _ _ bK bJ (@eh _ _ _ _ _ _ _ _ (@af _ _ _ _ _ _ _ (ax (mG.mono (by decide)) hr rfl l9 mB mq (@af _ _ _ _ _ _ _ (ae 0) (@af _ _ _ _ _ _ _ aq aj rfl) rfl) (ai (ai aw))) aj rfl)) (pA (ae 0) (@nN _ _ _ _ _ aq) (@nN _ _ _ _ _ aq)))) (bw (i := 1) gL.nd rfl (by first | exact Or.inl rfl | exact Or.inr rfl)) fD (@au _ _ _ _ _ _ _ (@cL _ _ _ _ _ _ 2 _ _ gL.nd rfl (by first | exact Or.inl rfl | exact Or.inr rfl) (ax (nE.mono (by decide)) hr rfl nz ny nB (@af _ _ _ _ _ _ _ (ae 1) aj rfl) (ai aw)) rfl (.inl rfl))
      (@au _ _ _ _ _ _ _ (@cL _ _ _ _ _ _ 3 _ _ gL.nd rfl (by first | exact Or.inl rfl | exact Or.inr rfl) (@aE _ _ _ _ _ _ _ _ _ _ _ bK bJ aq (ax (dk.mono (by decide)) hr rfl dj df dg (@af _ _ _ _ _ _ _ (ae 2) (@af _ _ _ _ _ _ _ aq aj rfl) rfl) (ai (ai aw)))) rfl (.inl rfl))
      (@au _ _ _ _ _ _ _ (@cL _ _ _ _ _ _ 4 _ _ gL.nd rfl (by first | exact Or.inl rfl | exact Or.inr rfl) (ax (oD.mono (by decide)) hr rfl oh o9 oE (@af _ _ _ _ _ _ _ (ae 2) (@af _ _ _ _ _ _ _ (ae 3) aj rfl) rfl) (ai (ai aw))) rfl (.inl rfl))
      (@au _ _ _ _ _ _ _ (o8 (osc := ar (aF 49)) [4] ["_law_place", "_law_order_here"] rfl rfl rfl rfl (by decide +kernel) ⟨by decide +kernel, by decide +kernel, rfl, by decide +kernel, rfl, by decide +kernel⟩ (g_ rfl T.range (@af _ _ _ _ _ _ _ (ae 3) aj rfl))
        (fun cl C ay aB fp => (mj (@bA _ _ _ _ _ _ _ _ _ _ _ (jr hr.units) mN (@bS _ _ _ _ _ _ _ _ _ _ bp bT (ae 1) (ae 0) (fun _ _ => rfl)) (ae 0) (bu _)))) (fun cl C ay aB fp => (ae 0)) (i := 5) gL.nd rfl)
      (@au _ _ _ _ _ _ _ (@iV _ _ _ _ _ _ _ _ _ _ (@bA _ _ _ _ _ _ _ _ _ _ _ (j9 hr.units) pS (aN (bO.frz yi) B8 rfl T.sorted PyProof.Rows.boot_sorted (@af _ _ _ _ _ _ _ (@aE _ _ _ _ _ _ _ _ _ _ _ bK bJ (@aE _ _ _ _ _ _ _ _ _ _ _ bK bJ (ax (lq.mono (by decide)) hr rfl kL lu lH (@af _ _ _ _ _ _ _ (ae 4) aj rfl) (ai aw)) (ax (iL.mono (by decide)) hr rfl g9 iP iz (@af _ _ _ _ _ _ _ (ae 4) aj rfl) (ai aw))) (cu bR eC rfl T.tuple PyProof.Rows.boot_tuple (@af _ _ _ _ _ _ _ (ae 5) aj rfl))) aj rfl)) (pG rfl rfl T.list rfl T.range (@af _ _ _ _ _ _ _ (ae 3) aj rfl)) (bu _)) (@aA _ _ _ _ _ (@bq _ _ _ _ _ _ gR)) cz)
      (@au _ _ _ _ _ _ _ (@cL _ _ _ _ _ _ 6 _ _ gL.nd rfl (by first | exact Or.inl rfl | exact Or.inr rfl) (ax (Ay.mono (by decide)) hr rfl zK AH Be (@af _ _ _ _ _ _ _ (ae 4) aj rfl) (ai aw)) rfl (.inl rfl))
      (@au _ _ _ _ _ _ _ (o8 (osc := ar (aF 49)) [6] ["_law_place", "_law_one"] rfl rfl rfl rfl (by decide +kernel) ⟨by decide +kernel, by decide +kernel, rfl, by decide +kernel, rfl, by decide +kernel⟩ (g_ rfl T.range (@af _ _ _ _ _ _ _ (ae 3) aj rfl))
        (fun cl C ay aB fp => (mj (@bA _ _ _ _ _ _ _ _ _ _ _ (jr hr.units) mN (@bS _ _ _ _ _ _ _ _ _ _ bp bT (ae 1) (ae 0) (fun _ _ => rfl)) (aN (xI rfl) BK rfl T.max PyProof.Rows.boot_max (@af _ _ _ _ _ _ _ (pA (ae 1) xA (@nN _ _ _ _ _ (@aE _ _ _ _ _ _ _ _ _ _ _ bK bJ (ae 0) aq))) aj rfl)) (bu _)))) (fun cl C ay aB fp => (ae 0)) (i := 7) gL.nd rfl)
      (@au _ _ _ _ _ _ _ (@iV _ _ _ _ _ _ _ _ _ _ (PW.pt (@vg _ _ _ _ _ _ _ _ _ (@bA _ _ _ _ _ _ _ _ _ _ _ xm xB (ax (eD.mono (by decide)) hr rfl eH eg eF (@af _ _ _ _ _ _ _ (ae 6) aj rfl) (ai aw)) gR (bu _)) (@vg _ _ _ _ _ _ _ _ _ (@bA _ _ _ _ _ _ _ _ _ _ _ (j9 hr.units) pS (aN bH bE rfl T.len PySem.boot_len (@af _ _ _ _ _ _ _ (ae 7) aj rfl)) (aN bH bE rfl T.len PySem.boot_len (@af _ _ _ _ _ _ _ (ax (gB.mono (by decide)) hr rfl gF gx gE (@af _ _ _ _ _ _ _ (ae 4) aj rfl) (ai aw)) aj rfl)) (bu _)) (@sg _ _ _ _ _ _ (@bA _ _ _ _ _ _ _ _ _ _ _ (j9 hr.units) pS (ax (pY.mono (by decide)) hr rfl oQ pk pU (@af _ _ _ _ _ _ _ (ae 6) aj rfl) (ai aw)) (aN bH bE rfl T.len PySem.boot_len (@af _ _ _ _ _ _ _ (ax (iL.mono (by decide)) hr rfl g9 iP iz (@af _ _ _ _ _ _ _ (ae 4) aj rfl) (ai aw)) aj rfl)) (bu _)))))) (@aA _ _ _ _ _ (@bq _ _ _ _ _ _ gR)) cz)
      (@au _ _ _ _ _ _ _ (@iV _ _ _ _ _ _ _ _ _ _ (PW.pt (@vg _ _ _ _ _ _ _ _ _ (@bA _ _ _ _ _ _ _ _ _ _ _ (j9 hr.units) pS (aN bH bE rfl T.len PySem.boot_len (@af _ _ _ _ _ _ _ (ax (lq.mono (by decide)) hr rfl kL lu lH (@af _ _ _ _ _ _ _ (ax (Ab.mono (by decide)) hr rfl zW zZ A4 (@af _ _ _ _ _ _ _ (ae 4) aj rfl) (ai aw)) aj rfl) (ai aw)) aj rfl)) (aN bH bE rfl T.len PySem.boot_len (@af _ _ _ _ _ _ _ (ax (iL.mono (by decide)) hr rfl g9 iP iz (@af _ _ _ _ _ _ _ (ae 4) aj rfl) (ai aw)) aj rfl)) (bu _)) (@sg _ _ _ _ _ _ (@bA _ _ _ _ _ _ _ _ _ _ _ xm xB (ax (eD.mono (by decide)) hr rfl eH eg eF (@af _ _ _ _ _ _ _ (ax (rX.mono (by decide)) hr rfl sO tK r_ (@af _ _ _ _ _ _ _ (ae 4) aj rfl) (ai aw)) aj rfl) (ai aw)) gR (bu _))))) (@aA _ _ _ _ _ (@bq _ _ _ _ _ _ gR)) cz)
      (@au _ _ _ _ _ _ _ (Hi (i := 3) (j := 8) rfl gL.nd rfl rfl (@sh _ _ _ _ _ _ _ (@af _ _ _ _ _ _ _ (@aE _ _ _ _ _ _ _ _ _ _ _ bK bJ aq (ax (dk.mono (by decide)) hr rfl dj df dg (@af _ _ _ _ _ _ _ (ae 2) (@af _ _ _ _ _ _ _ aq aj rfl) rfl) (ai (ai aw)))) (@af _ _ _ _ _ _ _ (ax (dk.mono (by decide)) hr rfl dj df dg (@af _ _ _ _ _ _ _ (ae 2) (@af _ _ _ _ _ _ _ aq aj rfl) rfl) (ai (ai aw))) aj rfl) rfl)))
      (@au _ _ _ _ _ _ _ (@iV _ _ _ _ _ _ _ _ _ _ (@bA _ _ _ _ _ _ _ _ _ _ _ (j9 hr.units) pS (aN (l7 rfl) vO rfl T.sum PyProof.Rows.boot_sum (@af _ _ _ _ _ _ _ (fc (osc := ar (aF 49)) [3, 8] ["_law_r", "_law_n", "_law_k"] rfl rfl rfl rfl (by decide +kernel) ⟨by decide +kernel, by decide +kernel, rfl, by decide +kernel, rfl, by decide +kernel⟩ (g_ rfl T.range (@af _ _ _ _ _ _ _ (@aE _ _ _ _ _ _ _ _ _ _ _ bK bJ (ae 3) aq) aj rfl))
        (fun cl C ay aB fp => jg) (fun cl C ay aB fp => (ax (jh.mono (by decide)) hr rfl jD i9 i5 (@af _ _ _ _ _ _ _ (ae 1) (@af _ _ _ _ _ _ _ (ae 0) (@af _ _ _ _ _ _ _ (ae 2) aj rfl) rfl) rfl) (ai (ai (ai aw)))))) aj rfl)) (ax (js.mono (by decide)) hr rfl jz jv ja (@af _ _ _ _ _ _ _ (ae 3) (@af _ _ _ _ _ _ _ (ae 8) (@af _ _ _ _ _ _ _ (@sh _ _ _ _ _ _ _ aj) aj rfl) rfl) rfl) (ai (ai (ai aw)))) (bu _)) (@aA _ _ _ _ _ (@bq _ _ _ _ _ _ gR)) cz)
      (@au _ _ _ _ _ _ _ (@cL _ _ _ _ _ _ 9 _ _ gL.nd rfl (by first | exact Or.inl rfl | exact Or.inr rfl) (ax (dk.mono (by decide)) hr rfl dj df dg (@af _ _ _ _ _ _ _ (ae 2) (@af _ _ _ _ _ _ _ (@aE _ _ _ _ _ _ _ _ _ _ _ bK bJ (ae 3) aq) aj rfl) rfl) (ai (ai aw))) rfl (.inl rfl))
      (@au _ _ _ _ _ _ _ (@iV _ _ _ _ _ _ _ _ _ _ (@bA _ _ _ _ _ _ _ _ _ _ _ (j9 hr.units) pS (aN (l7 rfl) vO rfl T.sum PyProof.Rows.boot_sum (@af _ _ _ _ _ _ _ (fc (osc := ar (aF 49)) [3, 9] ["_law_drops", "_law_n", "_law_r"] rfl rfl rfl rfl (by decide +kernel) ⟨by decide +kernel, by decide +kernel, rfl, by decide +kernel, rfl, by decide +kernel⟩ (g_ rfl T.range (@af _ _ _ _ _ _ _ (@aE _ _ _ _ _ _ _ _ _ _ _ bK bJ (ae 3) aq) aj rfl))
        (fun cl C ay aB fp => jg) (fun cl C ay aB fp => (ax (jh.mono (by decide)) hr rfl jD i9 i5 (@af _ _ _ _ _ _ _ (ae 1) (@af _ _ _ _ _ _ _ (ae 2) (@af _ _ _ _ _ _ _ (ae 0) aj rfl) rfl) rfl) (ai (ai (ai aw)))))) aj rfl)) (ax (l6.mono (by decide)) hr rfl mF mm my (@af _ _ _ _ _ _ _ (ae 3) (@af _ _ _ _ _ _ _ (ae 9) aj rfl) rfl) (ai (ai aw))) (bu _)) (@aA _ _ _ _ _ (@bq _ _ _ _ _ _ gR)) cz)
      (@aA _ _ _ _ _ (@iV _ _ _ _ _ _ _ _ _ _ (@bA _ _ _ _ _ _ _ _ _ _ _ mJ mL (ax (pe.mono (by decide)) hr rfl oG pI oz (@af _ _ _ _ _ _ _ (ae 3) (@af _ _ _ _ _ _ _ (ae 8) aj rfl) rfl) (ai (ai aw))) (ax (js.mono (by decide)) hr rfl jz jv ja (@af _ _ _ _ _ _ _ (ae 3) (@af _ _ _ _ _ _ _ (ae 8) (@af _ _ _ _ _ _ _ (@sh _ _ _ _ _ _ _ aj) aj rfl) rfl) rfl) (ai (ai (ai aw)))) (bu _)) (@aA _ _ _ _ _ (@bq _ _ _ _ _ _ gR)) cz))))))))))))))))
      (@aA _ _ _ _ _ (@bq _ _ _ _ _ _ gR)))
end
structure Text (K : PySem.W.Frag) : Prop where
  fN : bG K "_law_cell_at" (aF 44)
  gr : bG K "_law_pen_of" (aF 46)
  jf : bG K "_law_next" (aF 45)
  je : bG K "_law_draw" (aF 47)
  iJ : bG K "_law_order" (aF 48)
  j_ : bG K "is_whole" (aF 6)
  jG : bG K "is_within" (aF 7)
  iE : bG K "order_good" (aF 11)
  fZ : bG K "order_needed" (aF 12)
  ko : bG K "lifts_of" (aF 31)
  ki : bG K "drops_of" (aF 32)
  iu : bG K "round_from" (aF 30)
  i7 : bG K "rounds_of" (aF 29)
  vE : bG K "laid" (aF 33)
  kq : bG K "falls_in" (aF 13)
  kG : bG K "falls_of" (aF 14)
  iq : bG K "falls_many" (aF 15)
  vX : bG K "back" (aF 16)
  j6 : bG K "taken_up" (aF 34)
  fj : bG K "number_needed" (aF 8)
  fh : bG K "counts_needed" (aF 38)
  jo : bG K "both_next" (aF 41)
  i8 : bG K "both_rows" (aF 40)
  fS : bG K "both_counted" (aF 39)
  iw : bG K "both_count" (aF 36)
  eP : bG K "numbers_needed" (aF 20)
  eX : bG K "beginning_good" (aF 21)
  d9 : bG K "beginning_needed" (aF 22)
  ik : bG K "lower_left" (aF 26)
  gA : bG K "begun_count" (aF 25)
  gw : bG K "rest_counts" (aF 24)
  kl : bG K "rests_of" (aF 23)
  iI : bG K "begun_many" (aF 19)
  fM : bG K "rounds_count" (aF 35)
  kx : bG K "none_row" (aF 42)
  iB : bG K "none_count" (aF 37)
  zF : bG K "law" (aF 49)
  vQ : PySem.W.nsIn K mainGlobals "bool" = some none
  jj : PySem.W.nsIn K mainGlobals "enumerate" = some none
  zi : PySem.W.nsIn K mainGlobals "int" = some none
  iy : PySem.W.nsIn K mainGlobals "isinstance" = some none
  Bl : PySem.W.nsIn K mainGlobals "len" = some none
  vL : PySem.W.nsIn K mainGlobals "list" = some none
  zt : PySem.W.nsIn K mainGlobals "max" = some none
  sZ : PySem.W.nsIn K mainGlobals "range" = some none
  Ai : PySem.W.nsIn K mainGlobals "set" = some none
  o6 : PySem.W.nsIn K mainGlobals "sorted" = some none
  z0 : PySem.W.nsIn K mainGlobals "sum" = some none
  sj : PySem.W.nsIn K mainGlobals "tuple" = some none
  Bi : PySem.W.nsIn K mainGlobals "zip" = some none
  dQ : ∃ t, PySem.W.nsIn K mainGlobals "MOST_LISTED" = some (some (Value.int 12 t))
  bM : ∃ t, PySem.W.nsIn K mainGlobals "MOST_NUMBERS_orders" = some (some (Value.int 20 t))
  bL : ∃ t, PySem.W.nsIn K mainGlobals "MOST_NUMBERS_rounds" = some (some (Value.int 20 t))
theorem all_mk {P : Program} {w : World} {K : PySem.W.Frag} {h : Heap} {mg : Str -> Option Value} {fa : Addr} (X : K.In h) (G : h.Ns mainGlobals mg) (hfa : mg "law" = some (.ref fa)) (t : Text K) :
    ∃ fd : FuncData, (∀ (s : Shared) (v : Value), BindsTo s fd ⟨[v], []⟩ [("_law_script", v)]) /\ ∀ base : Heap, K.In base -> base.Ns mainGlobals mg -> fP P w K mg base CX0 7 fa fd ["_law_script"] (spM K (gOf mg) 1 n_) := by
  have T : Blt mg := ⟨PySem.W.mg_none_of X G t.vQ, PySem.W.mg_none_of X G t.jj, PySem.W.mg_none_of X G t.zi, PySem.W.mg_none_of X G t.iy, PySem.W.mg_none_of X G t.Bl, PySem.W.mg_none_of X G t.vL, PySem.W.mg_none_of X G t.zt, PySem.W.mg_none_of X G t.sZ, PySem.W.mg_none_of X G t.Ai, PySem.W.mg_none_of X G t.o6, PySem.W.mg_none_of X G t.z0, PySem.W.mg_none_of X G t.sj, PySem.W.mg_none_of X G t.Bi⟩
  obtain ⟨jW, dQ⟩ := t.dQ
  have e9 := PySem.W.mg_of X G dQ
  obtain ⟨eL, bM⟩ := t.bM
  have dq := PySem.W.mg_of X G bM
  obtain ⟨aZ, bL⟩ := t.bL
  have av := PySem.W.mg_of X G bL
  have pD := aL.of X G t.fN
  have qy := aL.of X G t.gr
  have uC := aL.of X G t.jf
  have um := aL.of X G t.je
  have tS := aL.of X G t.iJ
  have wz := aL.of X G t.j_
  have ve := aL.of X G t.jG
  have rH := aL.of X G t.iE
  have oH := aL.of X G t.fZ
  have we := aL.of X G t.ko
  have vW := aL.of X G t.ki
  have rK := aL.of X G t.iu
  have t5 := aL.of X G t.i7
  have Ee := aL.of X G t.vE
  have wj := aL.of X G t.kq
  have wB := aL.of X G t.kG
  have tQ := aL.of X G t.iq
  have Et := aL.of X G t.vX
  have vn := aL.of X G t.j6
  have nD := aL.of X G t.fj
  have nG := aL.of X G t.fh
  have uT := aL.of X G t.jo
  have uV := aL.of X G t.i8
  have pH := aL.of X G t.fS
  have tq := aL.of X G t.iw
  have lY := aL.of X G t.eP
  have lP := aL.of X G t.eX
  have kr := aL.of X G t.d9
  have sD := aL.of X G t.ik
  have qM := aL.of X G t.gA
  have qw := aL.of X G t.gw
  have wx := aL.of X G t.kl
  have rR := aL.of X G t.iI
  have oO := aL.of X G t.fM
  have vj := aL.of X G t.kx
  have tH := aL.of X G t.iB
  have GW := aL.of X G t.zF
  obtain ⟨f, fd, hm, F⟩ := GW
  have e := hfa.symm.trans hm
  cases e
  refine ⟨fd, ?_, fun base _ _ => ?_⟩
  · obtain ⟨oc, od, kV, doc, pm, an, cdv, ct, osl, rfl, lk, hcd⟩ := F.ex
    exact fun s v => .of_eq rfl
  · have eV := lL (P := P) (w := w) (base := base) (g := gOf mg) pD T
    have fw := nK (P := P) (w := w) (base := base) (g := gOf mg) qy T
    have gz := qL (P := P) (w := w) (base := base) (g := gOf mg) uC T
    have dh := qr (P := P) (w := w) (base := base) (g := gOf mg) um T gz
    have fQ := n9 (P := P) (w := w) (base := base) (g := gOf mg) tS T dh
    have iO := rQ (P := P) (w := w) (base := base) (g := gOf mg) wz T
    have bQ := qk (P := P) (w := w) (base := base) (g := gOf mg) ve T iO
    have cS := oW (P := P) (w := w) (base := base) (g := gOf mg) rH T dq bQ
    have aD := lO (P := P) (w := w) (base := base) (g := gOf mg) oH T cS
    have iF := tF (P := P) (w := w) (base := base) (g := gOf mg) we T aD
    have iD := tw (P := P) (w := w) (base := base) (g := gOf mg) vW T aD
    have fL := o_ (P := P) (w := w) (base := base) (g := gOf mg) rK T
    have de := qG (P := P) (w := w) (base := base) (g := gOf mg) t5 T aD fL
    have oY := Bd (P := P) (w := w) (base := base) (g := gOf mg) Ee T de
    have dC := sR (P := P) (w := w) (base := base) (g := gOf mg) wj T
    have iA := rL (P := P) (w := w) (base := base) (g := gOf mg) wB T aD dC
    have fK := pT (P := P) (w := w) (base := base) (g := gOf mg) tQ T iA
    have oS := Bm (P := P) (w := w) (base := base) (g := gOf mg) Et T aD
    have iQ := rY (P := P) (w := w) (base := base) (g := gOf mg) vn T aD
    have aJ := lG (P := P) (w := w) (base := base) (g := gOf mg) nD T bQ
    have eB := kQ (P := P) (w := w) (base := base) (g := gOf mg) nG T av aJ
    have gv := qE (P := P) (w := w) (base := base) (g := gOf mg) uT T
    have di := qF (P := P) (w := w) (base := base) (g := gOf mg) uV T gv
    have eT := lU (P := P) (w := w) (base := base) (g := gOf mg) pH T di
    have fY := oA (P := P) (w := w) (base := base) (g := gOf mg) tq T av aJ eB eT
    have dW := kc (P := P) (w := w) (base := base) (g := gOf mg) lY T e9 aJ
    have dX := ka (P := P) (w := w) (base := base) (g := gOf mg) lP T bQ
    have dw := jm (P := P) (w := w) (base := base) (g := gOf mg) kr T dX
    have gb := pF (P := P) (w := w) (base := base) (g := gOf mg) sD T
    have fk := nJ (P := P) (w := w) (base := base) (g := gOf mg) qM T gb dC
    have fv := nj (P := P) (w := w) (base := base) (g := gOf mg) qw T
    have g6 := tT (P := P) (w := w) (base := base) (g := gOf mg) wx T fv
    have gi := oR (P := P) (w := w) (base := base) (g := gOf mg) rR T dW dw fk g6
    have eS := lZ (P := P) (w := w) (base := base) (g := gOf mg) oO T av aJ di
    have ic := sS (P := P) (w := w) (base := base) (g := gOf mg) vj T
    have fO := oN (P := P) (w := w) (base := base) (g := gOf mg) tH T av aJ ic
    have CO := BE (P := P) (w := w) (base := base) (g := gOf mg) ⟨_, _, hm, F⟩ T eV fw dh fQ iF iD oY cS de fK oS iQ fY gi eS fO
    exact Fb F hm CO
theorem walk {l : PySem.W.OpenLaw} {q : Program} {loose : List Str} {XP : (Str -> Option Value) -> Heap -> Prop} {YP : World -> Heap -> Prop} {d : DefRec} {K : Params -> PySem.W.Frag} (hn : l.most = some 63) (hdf : d.params.defaults = [])
    (hY : ∀ (w : World) (h : Heap), YP w h -> (K w.params).In h)
    (ok : ∀ ns : List Int, ns.length <= 63 -> ∃ h, n_ [.scr (ns.map D.int)] [] = .ok (.bl true) h)
    (F : ∀ (w : World) (mg : Str -> Option Value) (fa : Addr) (h : Heap), (K w.params).In h -> h.Ns mainGlobals mg -> mg d.name = some (.ref fa) →
      ∃ fd : FuncData, (∀ (s : Shared) (u : Value), BindsTo s fd ⟨[u], []⟩ [("_law_script", u)]) /\ ∀ base : Heap, (K w.params).In base -> base.Ns mainGlobals mg -> fP l.prog w (K w.params) mg base CX0 7 fa fd ["_law_script"] (spM (K w.params) (gOf mg) 1 n_)) :
    PySem.W.WalkO q loose XP YP l.row.toRowW d [] (fun f vs => PySem.call f vs) :=
  EB (k := 7) hn hdf ⟨rfl, by decide, by decide, rfl⟩ hY ok F
theorem l4 {i : Int} (h1 : -(10 ^ 30) <= i) (h2 : i <= 10 ^ 30) : sml i = true := kD (Nat.le_trans (show i.natAbs <= 10 ^ 30 by omega) (by decide +kernel))
theorem vk {h : Hh} {n : Nat} {ds : List D} (e : aH h n = some ds) : n < h.length := by
  unfold aH at e
  by_cases hl : n < h.length
  · exact hl
  · rw [List.getElem?_eq_none (by omega)] at e; cases e
theorem sv {h : Hh} {n : Nat} {ds es : List D} (e : aH h n = some ds) : aH (h.set n (.lst es)) n = some es := by
  unfold aH; rw [List.getElem?_set_self (vk e)]
theorem CH {h t : Hh} {n : Nat} {ds : List D} (e : aH h n = some ds) : aH (h ++ t) n = some ds := by
  have := vk e
  unfold aH at e ⊢; rw [List.getElem?_append_left this]; exact e
theorem Ds {h t : Hh} {n : Nat} {o : O} (hn : n < h.length) : (h ++ t).set n o = h.set n o ++ t := List.set_append_left _ _ hn
theorem Af {h : Hh} {n : Nat} {ds : List D} (e : aH h n = some ds) : h.set n (.lst ds) = h := by
  unfold aH at e
  split at e
  · rename_i ds' q
    cases e
    refine List.ext_getElem? fun i => ?_
    rw [List.getElem?_set]
    split
    · rename_i hi; subst hi
      have hl : n < h.length := by
        by_cases hl : n < h.length
        · exact hl
        · rw [List.getElem?_eq_none (by omega)] at q; cases q
      rw [if_pos hl, q]
    · rfl
  · cases e
theorem D8 {h : Hh} {n : Nat} {ds : List D} (w : Wf h) (l : bU h.length ds = true) : Wf (h.set n (.lst ds)) := by
  unfold Wf at w ⊢
  rw [List.length_set, List.all_eq_true] at *
  intro x hx
  rcases List.mem_or_eq_of_mem_set hx with hx | hx
  · exact w x hx
  · subst hx; exact l
structure Pen where
  a : Int
  b : Int
  s : Int
noncomputable abbrev cD (p : Pen) : List D := [.int p.a, .int p.b, .int p.s]
noncomputable def nxt (x : Int) : Int := ((x + 7919) % 2147483647 * ((x + 7919) % 2147483647) + 48271 * ((x + 7919) % 2147483647) + 12345) % 2147483629
noncomputable def eK (p : Pen) (m : Int) : Int := if p.b = 1 /\ 0 < p.a then p.a % m else nxt (nxt p.s + 7) / 64 % m
noncomputable def fV (p : Pen) (m : Int) : Pen := if p.b = 1 /\ 0 < p.a then ⟨p.a / m, p.b, p.s⟩ else ⟨p.a, p.b, nxt (nxt p.s + 7)⟩
theorem tJ (p : Pen) {m : Int} (h : 0 < m) : 0 <= eK p m := by unfold eK; split <;> exact Int.emod_nonneg _ (by omega)
theorem oB (p : Pen) {m : Int} (h : 0 < m) : eK p m < m := by unfold eK; split <;> exact Int.emod_lt_of_pos _ h
@[simp] theorem ID {x : Int} {h : Hh} : ed [.int x] h = .ok (.int (nxt x)) h := by
  have h1 : 0 <= (x + 7919) % 2147483647 := Int.emod_nonneg _ (by decide)
  have h2 : (x + 7919) % 2147483647 < 2147483647 := Int.emod_lt_of_pos _ (by decide)
  have s1 : sml ((x + 7919) % 2147483647) = true := l4 (by omega) (by omega)
  have s2 : sml 48271 = true := by decide +kernel
  simp [ed, bz, s1, s2, nxt]
theorem zG {p : Pen} {m : Int} {h : Hh} {n : Nat} (e : aH h n = some (cD p)) (hm : 0 < m) (hm2 : m <= 10 ^ 20) : aM [.ref n, .int m] h = .ok (.int (eK p m)) (h.set n (.lst (cD (fV p m)))) := by
  have s1 : sml m = true := l4 (by omega) (by omega)
  have s2 : sml 64 = true := by decide +kernel
  have i2 : ∀ (x y z : Int) (h : Hh), ixK [D.int x, .int y, .int z] 2 h = .ok (.int z) h := fun _ _ _ _ => rfl
  have n0 : ixN (cD p).length 0 = some 0 := rfl
  have n2 : ixN (cD p).length 2 = some 2 := rfl
  by_cases c : p.b = 1
  · by_cases c2 : 0 < p.a
    · simp [aM, bz, mW e, c, c2, hm, s1, ip e n0, eK, fV]
    · simp [aM, bz, mW e, c, c2, i2, ip e n2, mW (sv e), s1, s2, hm, eK, fV]
  · simp [aM, bz, mW e, c, i2, ip e n2, mW (sv e), s1, s2, hm, eK, fV]
@[simp] theorem rZ {p : Pen} {m : Int} {h t : Hh} (hm : 0 < m /\ m <= 10 ^ 20) : aM [.ref h.length, .int m] (h ++ .lst (cD p) :: t) = .ok (.int (eK p m)) (h ++ .lst (cD (fV p m)) :: t) := by
  rw [zG eZ hm.1 hm.2, jL]
noncomputable def xo (c : Int) : Pen := ⟨max c (0 - c), if max c (0 - c) ≥ 10 ^ 18 then 1 else 0, max c (0 - c) % 1000003⟩
@[simp] theorem Ja {c : Int} {h : Hh} : cG [.int c] h = .ok (.ref h.length) (h ++ [.lst (cD (xo c))]) := by
  have s1 : sml 10 = true := by decide +kernel
  simp [cG, bz, s1, xo]
@[simp] theorem IL {ns : List Int} {h : Hh} : b_ [.scr (ns.map D.int), .int 0] h = .ok (.int (ns.headD 0)) h := by
  cases ns with
  | nil => simp [b_, bz]
  | cons c r => simp [b_, bz]
@[simp] theorem Hm {i : Int} {h : Hh} : fW [.int i] h = .ok (.bl true) h := by simp [fW, bz]
@[simp] theorem Gz {i a b : Int} {h : Hh} : bZ [.int i, .int a, .int b] h = .ok (.bl (decide (a <= i /\ i <= b))) h := by
  by_cases z : a <= i <;> simp [bZ, bz, z]
@[simp] theorem eG {i a b : Int} {h : Hh} (hi : a <= i /\ i <= b) : aK [.int i, .int a, .int b] h = .ok .non h := by
  simp [aK, bz, hi]
structure Ord (n : Nat) (xs : List Int) : Prop where
  len : xs.length = n
  nd : xs.Nodup
  lo : ∀ x ∈ xs, 0 <= x
  hi : ∀ x ∈ xs, x < n
noncomputable def gW (lo : Int) (n : Nat) : List Int := (List.range n).map fun (i : Nat) => lo + i
theorem sV (lo : Int) (n : Nat) : bb lo n = (gW lo n).map D.int := by simp [bb, gW, List.map_map]
theorem oJ (lo : Int) (n : Nat) : (gW lo n).length = n := by simp [gW]
theorem Aa (n : Nat) : Ord n (gW 0 n) := by
  refine ⟨oJ _ _, ?_, ?_, ?_⟩
  · unfold gW List.Nodup
    rw [List.pairwise_map]
    exact List.Pairwise.imp (fun {a b} h e => h (by omega)) List.nodup_range
  · intro x hx; simp [gW] at hx; omega
  · intro x hx; simp [gW] at hx; omega
noncomputable def gj (s : Pen × List Int) (_ : Nat) : Pen × List Int := (fV s.1 s.2.length, s.2.eraseIdx (eK s.1 s.2.length).toNat)
noncomputable def jC (s : Pen × List Int) (_ : Nat) : Int := gI s.2 (eK s.1 s.2.length).toNat
noncomputable def tO (p : Pen) (k : Nat) : (Pen × List Int) × List Int := (List.range k).foldl (fun a x => (gj a.1 x, a.2 ++ [jC a.1 x])) ((p, gW 0 k), [])
noncomputable def oV (p : Pen) (k : Nat) : Pen := (tO p k).1.1
noncomputable def nh (p : Pen) (k : Nat) : List Int := (tO p k).2
theorem rG {σ X β : Type} (f : σ -> X -> σ) (g : σ -> X -> β) : ∀ (xs : List X) (s : σ) (o : List β), (xs.foldl (fun a x => (f a.1 x, a.2 ++ [g a.1 x])) (s, o)).1 = xs.foldl f s
  | [], _, _ => rfl
  | x :: xs, s, o => by rw [List.foldl_cons, List.foldl_cons]; exact rG f g xs _ _
theorem getElem_erase {X : Type} : ∀ {l : List X} {n : Nat} (h : n < l.length), (l[n] :: l.eraseIdx n).Perm l
  | x :: l, 0, _ => by simp
  | x :: l, n + 1, h => by
    simp only [List.getElem_cons_succ, List.eraseIdx_cons_succ]
    exact (List.Perm.swap _ _ _).trans (List.Perm.cons x (getElem_erase (by simpa using h)))
theorem CL (p : Pen) (k : Nat) : ∀ j, j <= k -> ∀ a, a = (List.range j).foldl (fun a x => (gj a.1 x, a.2 ++ [jC a.1 x])) ((p, gW 0 k), []) -> a.1.2.length = k - j /\ a.2.length = j /\ (a.2 ++ a.1.2).Perm (gW 0 k) := by
  intro j
  induction j with
  | zero => intro _ a e; subst e; simp [oJ]
  | succ j ih =>
    intro hj a e
    rw [List.range_succ, List.foldl_append] at e
    generalize hb : (List.range j).foldl (fun a x => (gj a.1 x, a.2 ++ [jC a.1 x])) ((p, gW 0 k), []) = b at e
    obtain ⟨l1, l2, pm⟩ := ih (by omega) b hb.symm
    subst e
    simp only [List.foldl_cons, List.foldl_nil, gj, jC]
    have hp : (0 : Int) < (b.1.2.length : Nat) := by omega
    have d0 := tJ b.1.1 hp
    have d1 := oB b.1.1 hp
    generalize eK b.1.1 (b.1.2.length : Nat) = d at d0 d1
    have hd : d.toNat < b.1.2.length := by omega
    refine ⟨by rw [List.length_eraseIdx, if_pos hd]; omega, by simp [l2], ?_⟩
    refine List.Perm.trans ?_ pm
    rw [List.append_assoc]
    refine List.Perm.append_left _ ?_
    rw [bD hd]
    exact getElem_erase hd
theorem Ag (p : Pen) (k : Nat) : Ord k (nh p k) := by
  obtain ⟨l1, l2, pm⟩ := CL p k k (Nat.le_refl _) _ rfl
  have e : (tO p k).1.2 = [] := List.eq_nil_of_length_eq_zero (by unfold tO; omega)
  have pm' : (nh p k).Perm (gW 0 k) := by
    unfold nh
    have : (tO p k).2 ++ (tO p k).1.2 = (tO p k).2 := by rw [e, List.append_nil]
    rw [<- this]; exact pm
  have o := Aa k
  exact ⟨by rw [pm'.length_eq, o.len], pm'.nodup_iff.mpr o.nd, fun x hx => o.lo x (pm'.mem_iff.mp hx), fun x hx => o.hi x (pm'.mem_iff.mp hx)⟩
theorem Gv {n k : Nat} {ds : List D} {i : Int} {d : D} {h : Hh} (e : aH h n = some ds) (e2 : ixN ds.length i = some k) (e3 : ds[k]? = some d) (hl : ds.length <= 1000000) : tZ (.ref n) [.int i] h = .ok d (h.set n (.lst (ds.eraseIdx k))) := by delta tZ; dsimp only; rw [e]; dsimp only; rw [e2]; dsimp only; rw [e3]; exact if_pos hl
theorem k4 {X Y : Type} (f : X -> Y) : ∀ (xs : List X) (k : Nat), (xs.map f).eraseIdx k = (xs.eraseIdx k).map f
  | [], _ => rfl
  | _ :: _, 0 => rfl
  | x :: xs, k + 1 => by simp [k4 f xs k]
theorem C5 {p : Pen} {k : Nat} {h : Hh} {n : Nat} (e : aH h n = some (cD p)) (w : Wf h) (hk : k <= 1000) : cA [.ref n, .int k] h = .ok (.tup ((nh p k).map D.int)) (h.set n (.lst (cD (oV p k)))) := by
  have hn := vk e
  have z1 : k <= 1000000 := by omega
  have st : ∀ (s : Pen × List Int) (x : Nat) (r : List Nat), (s.2.length = (x :: r).length /\ (x :: r).length <= k) -> ((gj s x).2.length = r.length /\ r.length <= k) ∧
      (fe tZ (ag 1) (aa (ah aM (aa (ag 2) (aa (ah bF (aa (ag 1) ak)) ak))) ak)) [some (D.int (0 + (x : Int))), some (.ref h.length), some (.ref n)] (h.set n (.lst (cD s.1)) ++ [.lst (s.2.map D.int)]) = .ok (D.int (jC s x)) (h.set n (.lst (cD (gj s x).1)) ++ [.lst ((gj s x).2.map D.int)]) := by
    intro s x r ⟨hs, hr⟩
    simp only [List.length_cons] at hs hr
    have hp : (0 : Int) < (s.2.length : Nat) := by omega
    have hp2 : ((s.2.length : Nat) : Int) <= 10 ^ 20 := by omega
    have d0 := tJ s.1 hp
    have d1 := oB s.1 hp
    have hd : (eK s.1 s.2.length).toNat < s.2.length := by omega
    refine ⟨⟨by simp only [gj]; rw [List.length_eraseIdx, if_pos hd]; omega, by omega⟩, ?_⟩
    have hL : (h.set n (.lst (cD s.1))).length = h.length := List.length_set
    have e1 : aH (h.set n (.lst (cD s.1)) ++ [.lst (s.2.map D.int)]) n = some (cD s.1) := CH (sv e)
    have e2 : aH (h.set n (.lst (cD s.1)) ++ [.lst (s.2.map D.int)]) h.length = some (s.2.map D.int) := by rw [<- hL]; exact eZ
    have e3 : (h.set n (.lst (cD s.1)) ++ [O.lst (s.2.map D.int)]).set n (.lst (cD (fV s.1 s.2.length))) = h.set n (.lst (cD (fV s.1 s.2.length))) ++ [.lst (s.2.map D.int)] := by rw [Ds (by omega), List.set_set]
    have hL' : (h.set n (.lst (cD (fV s.1 s.2.length)))).length = h.length := List.length_set
    have e4 : aH (h.set n (.lst (cD (fV s.1 s.2.length))) ++ [.lst (s.2.map D.int)]) h.length = some (s.2.map D.int) := by rw [<- hL']; exact eZ
    have e5 : (s.2.map D.int)[(eK s.1 s.2.length).toNat]? = some (.int (jC s x)) := by
      rw [List.getElem?_map, List.getElem?_eq_getElem hd]; simp [jC, bD hd]
    have e6 : ixN (s.2.map D.int).length (eK s.1 s.2.length) = some (eK s.1 s.2.length).toNat := by rw [List.length_map]; exact k7 (by omega) hd
    simp only [BY, Ff, FO, cm, zY e2, if_true, Fz, D9, F4, D0 e2, List.length_map, zG e1 hp hp2, e3, Gv e4 e6 e5 (by rw [List.length_map]; omega)]
    rw [<- hL', jL, k4]
    rfl
  obtain ⟨ys, q1, q2, q3⟩ := rq (te := fe tZ (ag 1) (aa (ah aM (aa (ag 2) (aa (ah bF (aa (ag 1) ak)) ak))) ak)) (ee := fun d => [some d, some (.ref h.length), some (.ref n)])
    (fun (s : Pen × List Int) => h.set n (.lst (cD s.1)) ++ [.lst (s.2.map D.int)]) (fun (i : Nat) => D.int (0 + i)) gj (fun s x => D.int (jC s x)) (fun r s => s.2.length = r.length /\ r.length <= k) st (List.range k) (p, gW 0 k) ⟨by simp [oJ], by simp⟩
  have q1' : cO tt1 (fe tZ (ag 1) (aa (ah aM (aa (ag 2) (aa (ah bF (aa (ag 1) ak)) ak))) ak)) (fun d => [some d, some (.ref h.length), some (.ref n)]) (bb 0 k) (h ++ [.lst (bb 0 k)]) = .ok ((nh p k).map D.int) (h.set n (.lst (cD (oV p k))) ++ [.lst []]) := by
    have a1 : h.set n (.lst (cD p)) = h := Af e
    have a2 : ((List.range k).foldl gj (p, gW 0 k)).2 = [] := List.eq_nil_of_length_eq_zero q2.1
    have a3 : ((List.range k).foldl gj (p, gW 0 k)).1 = oV p k := by unfold oV tO; rw [rG]
    have a4 : ys = (nh p k).map D.int := by
      rw [q3]
      unfold nh tO
      have key : ∀ (xs : List Nat) (s : Pen × List Int) (o : List Int), (xs.foldl (fun (a : (Pen × List Int) × List D) x => (gj a.1 x, a.2 ++ [D.int (jC a.1 x)])) (s, o.map D.int)).2 = ((xs.foldl (fun (a : (Pen × List Int) × List Int) x => (gj a.1 x, a.2 ++ [jC a.1 x])) (s, o)).2).map D.int := by
        intro xs
        induction xs with
        | nil => intro s o; rfl
        | cons x xs ih =>
          intro s o
          rw [List.foldl_cons, List.foldl_cons]
          have := ih (gj s x) (o ++ [jC s x])
          simpa using this
      exact key _ _ []
    simp only [a1, a2, a3, a4, List.map_nil] at q1
    rw [<- sV] at q1
    exact q1
  have hL : (h.set n (.lst (cD (oV p k)))).length = h.length := List.length_set
  have w' : Wf (h.set n (.lst (cD (oV p k)))) := D8 w rfl
  have ex : cf h (.tup ((nh p k).map D.int)) (h.set n (.lst (cD (oV p k))) ++ [.lst []]) = .ok (.tup ((nh p k).map D.int)) (h.set n (.lst (cD (oV p k)))) := by
    have := cX (h := h.set n (.lst (cD (oV p k)))) (t := [.lst []]) (d := .tup ((nh p k).map D.int)) w' (by simp)
    unfold cf at this ⊢
    rw [hL] at this
    exact this
  have hk6 : k <= 1000000 := by omega
  simp [cA, bz, z1, iX, q1', ex, hk6]
theorem vp {n : Nat} {xs : List Int} {h : Hh} (o : Ord n xs) (h1 : 1 <= n) (h2 : n <= 20) (w : Wf h) : bx [.tup (xs.map D.int)] h = .ok (.bl true) h := by
  have hl := o.len
  obtain ⟨q, _⟩ := uS (tg := gN 1) (body := dA (jF (aI om (ah bZ (aa (ag 1) (aa (cC (.int 0)) (aa (ao fq (ah bF (aa (ag 0) ak)) (cC (.int 1))) ak)))))) (br (cC (.bl false))) bX)
    (fun (s : Option D) => [some (.tup (xs.map D.int)), s]) (fun _ => h) D.int (fun s x => some (.int x)) (fun r s => ∀ x ∈ r, 0 <= x /\ x < n) (fun s x r hr => ⟨fun y hy => hr y (List.mem_cons_of_mem _ hy), .inl (by
      have := hr x List.mem_cons_self
      have z : 0 <= x /\ x <= ↑xs.length - 1 := by omega
      simp [z])⟩) xs none (fun x hx => ⟨o.lo x hx, o.hi x hx⟩)
  have c1 : (1 : Int) <= xs.length := by omega
  have c2 : (xs.length : Int) <= 20 := by omega
  have c3 : xs.length <= 4000 := by omega
  have c4 := yh o.nd
  simp [bx, bz, c1, c2, q, c3, c4]
  exact cX w rfl
theorem fH {n : Nat} {xs : List Int} {h : Hh} (o : Ord n xs) (h1 : 1 <= n) (h2 : n <= 20) (w : Wf h) : aO [.tup (xs.map D.int)] h = .ok .non h := by
  simp [aO, bz, vp o h1 h2 w]
noncomputable def lB {X : Type} (xs : List X) (lo hi : Option Int) : List X := (xs.drop (HT.sIx xs.length 0 lo)).take (HT.sIx xs.length xs.length hi - HT.sIx xs.length 0 lo)
theorem n4 {X : Type} (f : X -> D) (xs : List X) (lo hi : Option Int) : cutD (xs.map f) lo hi = (lB xs lo hi).map f := by
  unfold cutD lB
  rw [List.length_map, List.map_take, List.map_drop]
theorem Ci {X : Type} (xs : List X) (k : Nat) : lB xs none (some (k : Int)) = xs.take k := by
  unfold lB
  rw [HT.uQ, HT.xg]
  simp
theorem yz {X : Type} (xs : List X) (k : Nat) : lB xs (some (k : Int)) none = xs.drop k := by
  unfold lB
  rw [HT.uQ, HT.xg]
  rcases Nat.le_total k xs.length with h | h
  · rw [Nat.min_eq_left h, List.take_of_length_le (by simp)]
  · rw [Nat.min_eq_right h]; simp [List.drop_eq_nil_of_le h]
theorem xv {i : Int} (h0 : 0 <= i) (h : i <= 1000000) : sml i = true := l4 (by omega) (by omega)
noncomputable def kh (xs : List Int) : List Nat := (List.range (xs.length - 1)).filter fun i => decide (gI xs (i + 1) < gI xs i)
noncomputable def kj (xs : List Int) : List Int := (kh xs).map fun (i : Nat) => (i : Int)
theorem yF {xs : List Int} {h : Hh} {d : D} (hd : ∀ (i : Int), dIx d (.int i) h = ixK (xs.map D.int) i h) : cO (aI asB (ao dGt (ao dIx (ag 1) (ag 0)) (ao dIx (ag 1) (ao (bB aC) (ag 0) (cC (.int 1)))))) (ag 0) (fun x => [some x, some d]) (bb 0 (xs.length - 1)) h = .ok ((kj xs).map D.int) h := by
  rw [pf (fun i => decide (gI xs (i + 1) < gI xs i)) (fun i => D.int i)]
  · simp [kj, kh, List.map_map]
  · intro i hi
    have e1 : ixK (xs.map D.int) (i : Int) h = .ok (.int (gI xs i)) h := dE rfl (by omega)
    have e2 : ixK (xs.map D.int) ((i : Int) + 1) h = .ok (.int (gI xs (i + 1))) h := dE (by omega) (by omega)
    simp [hd, e1, e2]
theorem vm {xs : List Int} {h : Hh} (hl : xs.length <= 1000) (h1 : 1 <= xs.length) : dz [.tup (xs.map D.int)] h = .ok (.tup ((kj xs).map D.int)) h := by
  have z1 : ((xs.length : Int) - 1).natAbs <= 1000000 := by omega
  have z2 : ((xs.length : Int) - 1).toNat = xs.length - 1 := by omega
  have z3 : xs.length - 1 <= 1000000 := by omega
  have q := yF (xs := xs) (h := h) (d := .tup (xs.map D.int)) (fun i => Gn)
  simp [dz, bz, z1, z2, z3, q]
theorem v_ {n : Nat} {xs : List Int} {h : Hh} (o : Ord n xs) (h1 : 1 <= n) (h2 : n <= 20) (w : Wf h) : fI [.tup (xs.map D.int)] h = .ok (.tup ((kj xs).map D.int)) h := by
  simp [fI, bz, fH o h1 h2 w, vm (h := h) (xs := xs) (by have := o.len; omega) (by have := o.len; omega)]
theorem sT {h : Hh} (w : Wf h) (p : Pen) : Wf (h ++ [.lst (cD p)]) := w.app rfl
theorem wZ (p : Pen) (m : Int) (h : 0 < m) : ∃ k : Nat, eK p m = (k : Int) /\ (k : Int) < m := by
  have h0 := tJ p h
  have h1 := oB p h
  exact ⟨(eK p m).toNat, by omega, by omega⟩
theorem yo (ns : List Int) (lo hi : Option Int) : cutD (ns.map D.int) lo hi = (lB ns lo hi).map D.int := n4 _ _ _ _
theorem B2 {X : Type} (xs : List X) (lo hi : Option Int) : (lB xs lo hi).length <= xs.length := by
  unfold lB; rw [List.length_take, List.length_drop]; omega
theorem yZ {p : Pen} {k : Nat} {h : Hh} (w : Wf h) (hk : k <= 1000) : cA [.ref h.length, .int k] (h ++ [.lst (cD p)]) = .ok (.tup ((nh p k).map D.int)) (h ++ [.lst (cD (oV p k))]) := by
  rw [C5 eZ (sT w p) hk, jL]
theorem kF : ∀ (n : Nat) (xs : List Int), xs.Nodup -> (∀ x ∈ xs, 0 <= x /\ x < n) -> xs.length <= n
  | 0, xs, _, h => by
    cases xs with
    | nil => simp
    | cons x r => have := h x List.mem_cons_self; omega
  | n + 1, xs, nd, h => by
    by_cases hm : (n : Int) ∈ xs
    · have ih := kF n (xs.erase n) (nd.erase _) (fun x hx => by
        obtain ⟨a, b⟩ := (List.Nodup.mem_erase_iff nd).mp hx
        have := h x b; omega)
      rw [List.length_erase_of_mem hm] at ih
      omega
    · have ih := kF n xs nd (fun x hx => by
        have a := h x hx
        have b : x ≠ (n : Int) := fun e => hm (e ▸ hx)
        omega)
      omega
theorem wN {n : Nat} {xs : List Int} (o : Ord n xs) {j : Int} (h0 : 0 <= j) (h1 : j < n) : j ∈ xs := by
  refine Classical.byContradiction fun hj => ?_
  have := kF n (j :: xs) (List.nodup_cons.mpr ⟨hj, o.nd⟩) (fun x hx => by
    rcases List.mem_cons.mp hx with rfl | hx
    · exact ⟨h0, h1⟩
    · exact ⟨o.lo x hx, o.hi x hx⟩)
  rw [List.length_cons, o.len] at this
  omega
theorem wc {n : Nat} {xs : List Int} (o : Ord n xs) {j : Int} (h0 : 0 <= j) (h1 : j < n) : ∃ i : Nat, i < n /\ gI xs i = j := by
  obtain ⟨i, hi, e⟩ := List.getElem_of_mem (wN o h0 h1)
  exact ⟨i, by rw [<- o.len]; exact hi, by rw [bD hi, e]⟩
theorem kf {xs : List Int} (nd : xs.Nodup) {i j : Nat} (hi : i < xs.length) (hj : j < xs.length) (e : gI xs i = gI xs j) : i = j := by
  rw [bD hi, bD hj] at e
  rcases Nat.lt_trichotomy i j with z | z | z
  · exact absurd e (List.pairwise_iff_getElem.mp nd i j hi hj z)
  · exact z
  · exact absurd e.symm (List.pairwise_iff_getElem.mp nd j i hj hi z)
theorem fF {n : Nat} {xs : List Int} (o : Ord n xs) {i : Nat} (hi : i < n) : 0 <= gI xs i /\ gI xs i < n := ⟨o.lo _ (fT (by rw [o.len]; exact hi)), o.hi _ (fT (by rw [o.len]; exact hi))⟩
theorem DJ {xs ys : List Int} (h : xs.length = ys.length) (e : ∀ i, i < xs.length -> gI xs i = gI ys i) : xs = ys := by
  refine List.ext_getElem h fun i h1 h2 => ?_
  have := e i h1
  rwa [bD h1, bD h2] at this
theorem AE {n : Nat} {xs : List Int} (l : xs.length = n) (r : ∀ i, i < n -> 0 <= gI xs i /\ gI xs i < n) (inj : ∀ i j, i < n -> j < n -> gI xs i = gI xs j -> i = j) : Ord n xs := by
  refine ⟨l, ?_, fun x hx => ?_, fun x hx => ?_⟩
  · refine List.pairwise_iff_getElem.mpr fun i j hi hj hij e => ?_
    have := inj i j (by omega) (by omega) (by rw [bD hi, bD hj, e])
    omega
  · obtain ⟨i, hi, e⟩ := List.getElem_of_mem hx
    have := (r i (by omega)).1
    rwa [bD hi, e] at this
  · obtain ⟨i, hi, e⟩ := List.getElem_of_mem hx
    have := (r i (by omega)).2
    rwa [bD hi, e] at this
noncomputable def orb (xs : List Int) (p : Int) : Nat -> Int
  | 0 => p
  | i + 1 => gI xs (orb xs p i).toNat
theorem mE {n : Nat} {xs : List Int} (o : Ord n xs) {p : Int} (h0 : 0 <= p) (h1 : p < n) : ∀ i, 0 <= orb xs p i /\ orb xs p i < n
  | 0 => ⟨h0, h1⟩
  | i + 1 => by have := mE o h0 h1 i; exact fF o (i := (orb xs p i).toNat) (by omega)
theorem rO (xs : List Int) (p : Int) (i : Nat) : ∀ j, orb xs (orb xs p i) j = orb xs p (i + j)
  | 0 => rfl
  | j + 1 => by show gI xs (orb xs (orb xs p i) j).toNat = gI xs (orb xs p (i + j)).toNat; rw [rO xs p i j]
theorem BS {n : Nat} {xs : List Int} (o : Ord n xs) {p : Int} (h0 : 0 <= p) (h1 : p < n) {i j : Nat} (e : orb xs p (i + 1) = orb xs p (j + 1)) : orb xs p i = orb xs p j := by
  have a := mE o h0 h1 i
  have b := mE o h0 h1 j
  have := kf o.nd (i := (orb xs p i).toNat) (j := (orb xs p j).toNat) (by rw [o.len]; omega) (by rw [o.len]; omega) e
  omega
theorem qe {n : Nat} {xs : List Int} (o : Ord n xs) {p : Int} (h0 : 0 <= p) (h1 : p < n) (d : Nat) : ∀ i, orb xs p i = orb xs p (i + d) -> orb xs p d = p
  | 0, e => by rw [Nat.zero_add] at e; exact e.symm
  | i + 1, e => qe o h0 h1 d i (BS o h0 h1 (by rw [show i + 1 + d = i + d + 1 by omega] at e; exact e))
theorem Cn {n : Nat} {xs : List Int} (o : Ord n xs) {p : Int} (h0 : 0 <= p) (h1 : p < n) : ∃ c, c < n /\ orb xs p (c + 1) = p := by
  refine Classical.byContradiction fun hc => ?_
  have no : ∀ c, c < n -> orb xs p (c + 1) ≠ p := fun c hn e => hc ⟨c, hn, e⟩
  have nd : ((List.range (n + 1)).map (orb xs p)).Nodup := by
    refine List.pairwise_iff_getElem.mpr fun i j hi hj hij e => ?_
    simp only [List.length_map, List.length_range] at hi hj
    simp only [List.getElem_map, List.getElem_range] at e
    have := qe o h0 h1 (j - i) i (by rw [show i + (j - i) = j by omega]; exact e)
    exact no (j - i - 1) (by omega) (by rw [show j - i - 1 + 1 = j - i by omega]; exact this)
  have := kF n _ nd (fun x hx => by obtain ⟨i, _, rfl⟩ := List.mem_map.mp hx; exact mE o h0 h1 i)
  simp at this
  omega
noncomputable def cy (xs : List Int) (p : Int) : Nat := (List.range xs.length).findIdx (fun i => orb xs p (i + 1) == p)
structure Cy (n : Nat) (xs : List Int) (p : Int) (c : Nat) : Prop where
  lt : c < n
  ret : orb xs p (c + 1) = p
  fst : ∀ i, i < c -> orb xs p (i + 1) ≠ p
theorem uN {n : Nat} {xs : List Int} (o : Ord n xs) {p : Int} (h0 : 0 <= p) (h1 : p < n) : Cy n xs p (cy xs p) := by
  obtain ⟨c, hc, e⟩ := Cn o h0 h1
  have ex : ∃ x ∈ List.range xs.length, (fun i => orb xs p (i + 1) == p) x = true := ⟨c, by rw [o.len]; exact List.mem_range.mpr hc, by simpa using e⟩
  have lt := List.findIdx_lt_length_of_exists ex
  refine ⟨by show List.findIdx _ _ < n; have := lt; rw [List.length_range] at this; have l := o.len; omega, ?_, fun i hi => ?_⟩
  · have := List.findIdx_getElem (w := lt)
    simpa [cy] using this
  · have := List.not_of_lt_findIdx (p := fun i => orb xs p (i + 1) == p) (xs := List.range xs.length) hi
    simpa using this
noncomputable def wk (xs : List Int) (p : Int) : List Int := (List.range (cy xs p + 1)).map (orb xs p)
theorem ky (xs : List Int) (p : Int) : (wk xs p).length = cy xs p + 1 := by simp [wk]
theorem v8 {n : Nat} {xs : List Int} (o : Ord n xs) {p : Int} (h0 : 0 <= p) (h1 : p < n) : ∀ i, orb xs p i ∈ wk xs p
  | 0 => List.mem_map.mpr ⟨0, by simp, rfl⟩
  | i + 1 => by
    obtain ⟨k, hk, e⟩ := List.mem_map.mp (v8 o h0 h1 i)
    rw [List.mem_range] at hk
    have e2 : orb xs p (i + 1) = orb xs p (k + 1) := by show gI xs _ = gI xs _; rw [e]
    rw [e2]
    by_cases z : k + 1 < cy xs p + 1
    · exact List.mem_map.mpr ⟨k + 1, List.mem_range.mpr z, rfl⟩
    · have : k = cy xs p := by omega
      subst this
      rw [(uN o h0 h1).ret]
      exact List.mem_map.mpr ⟨0, by simp, rfl⟩
theorem oX {n : Nat} {xs : List Int} (o : Ord n xs) {p x : Int} (h0 : 0 <= p) (h1 : p < n) (h : x ∈ wk xs p) : 0 <= x /\ x < n := by
  obtain ⟨i, _, rfl⟩ := List.mem_map.mp h
  exact mE o h0 h1 i
theorem Cq (xs : List Int) (p : Int) : p ∈ wk xs p := List.mem_map.mpr ⟨0, by simp, rfl⟩
theorem kX {n : Nat} {xs : List Int} (o : Ord n xs) {p x : Int} (h0 : 0 <= p) (h1 : p < n) (h : x ∈ wk xs p) : p ∈ wk xs x := by
  have r := oX o h0 h1 h
  obtain ⟨i, hi, rfl⟩ := List.mem_map.mp h
  rw [List.mem_range] at hi
  have := v8 o r.1 r.2 (cy xs p + 1 - i)
  rwa [rO, show i + (cy xs p + 1 - i) = cy xs p + 1 by omega, (uN o h0 h1).ret] at this
theorem pE {n : Nat} {xs : List Int} (o : Ord n xs) {q p x : Int} (h0 : 0 <= q) (h1 : q < n) (h : x ∈ wk xs p) (hp : p ∈ wk xs q) : x ∈ wk xs q := by
  obtain ⟨i, _, rfl⟩ := List.mem_map.mp hp
  obtain ⟨j, _, rfl⟩ := List.mem_map.mp h
  rw [rO]
  exact v8 o h0 h1 _
theorem tY (bt : Nat -> Nat -> Bool) : ∀ k, argBest bt k <= k
  | 0 => Nat.le_refl _
  | k + 1 => by
    have ih := tY bt k
    unfold argBest
    split <;> omega
theorem ui (ns : List Int) : ∀ k i, i <= k -> ns.getD i 0 <= ns.getD (argBest (fun i j => decide (ns.getD i 0 > ns.getD j 0)) k) 0
  | 0, i, h => by have : i = 0 := by omega
                  subst this; exact Int.le_refl _
  | k + 1, i, h => by
    have ih := ui ns k
    unfold argBest
    split
    · rename_i c
      simp only [decide_eq_true_eq] at c
      by_cases e : i = k + 1
      · subst e; exact Int.le_refl _
      · have := ih i (by omega); omega
    · rename_i c
      simp only [decide_eq_true_eq] at c
      by_cases e : i = k + 1
      · subst e; omega
      · exact ih i (by omega)
theorem max_mem {ns : List Int} (h : 0 < ns.length) : jc ns ∈ ns := by
  unfold jc
  have := tY (fun i j => decide (ns.getD i 0 > ns.getD j 0)) (ns.length - 1)
  rw [List.getD_eq_getElem?_getD, List.getElem?_eq_getElem (by omega)]
  exact List.getElem_mem _
theorem le_max {ns : List Int} {x : Int} (h : x ∈ ns) : x <= jc ns := by
  obtain ⟨i, hi, e⟩ := List.getElem_of_mem h
  have := ui ns (ns.length - 1) i (by omega)
  rw [List.getD_eq_getElem?_getD (i := i), List.getElem?_eq_getElem hi, Option.getD_some, e] at this
  exact this
noncomputable def kJ (xs : List Int) (p : Int) : Bool := jc (wk xs p) == p
theorem nV {xs : List Int} {p : Int} : kJ xs p = true ↔ ∀ x ∈ wk xs p, x <= p := by
  unfold kJ
  rw [beq_iff_eq]
  constructor
  · intro e x hx
    have := le_max hx
    omega
  · intro h
    have a := h _ (max_mem (ns := wk xs p) (by rw [ky]; omega))
    have b := le_max (Cq xs p)
    omega
noncomputable def ft (n : Nat) (xs : List Int) : List (List Int) := (((List.range n).map fun (i : Nat) => (i : Int)).filter (kJ xs)).map (wk xs)
theorem xl (xs : List Int) (p : Int) (i : Nat) : (List.range (i + 1)).map (orb xs p) = (List.range i).map (orb xs p) ++ [orb xs p i] := by rw [List.range_succ, List.map_append]; rfl
theorem wu {xs : List Int} {p : Int} {i : Nat} {h : Hh} : ixK (((List.range (i + 1)).map (orb xs p)).map D.int) (-1) h = .ok (.int (orb xs p i)) h := by
  rw [xl]
  have e : ixN (((List.range i).map (orb xs p) ++ [orb xs p i]).map D.int).length (-1) = some i := by
    rw [List.length_map, List.length_append]; unfold ixN; simp; omega
  unfold ixK atI
  rw [e]
  simp
theorem qS (k : Nat) (h : Hh) : ∀ xs ys : List Int, eqL (eqD (k + 1) h) (xs.map D.int) (ys.map D.int) = some (decide (xs = ys))
  | [], [] => rfl
  | [], y :: ys => rfl
  | x :: xs, [] => rfl
  | x :: xs, y :: ys => by
    have ih := qS k h xs ys
    have e1 : eqD (k + 1) h (.int x) (.int y) = some (x == y) := rfl
    simp only [List.map_cons, eqL, e1, ih]
    by_cases a : x = y <;> by_cases b : xs = ys <;> simp [a, b]
noncomputable def WC2 : MT := (aI asB (ao dNe (ao dIx (ag 0) (ao dIx (ag 2) (cUn jQ (cC (.int 1))))) (ag 1)))
noncomputable def WB2 : MS := (cb (fe du (ag 2) (aa (ao dIx (ag 0) (ao dIx (ag 2) (cUn jQ (cC (.int 1))))) ak)))
theorem Ge : dF = gT (fun ds h => ((b8 3 (aG (bC 2 (ah (fo iY) (aa (ag 1) ak))) (aG (se 64 WC2 WB2) (br (ah bW (aa (ag 2) ak)))))) ds h).bind (cf h)) := rfl
theorem wb {n : Nat} {xs : List Int} (o : Ord n xs) {p : Int} (h0 : 0 <= p) (h1 : p < n) (i : Nat) {h : Hh} : ixK (xs.map D.int) (orb xs p i) h = .ok (.int (orb xs p (i + 1))) h := by
  have := mE o h0 h1 i
  exact dE (j := (orb xs p i).toNat) (by omega) (by rw [o.len]; omega)
theorem EI {n : Nat} {xs : List Int} {p : Int} {h : Hh} (o : Ord n xs) (h0 : 0 <= p) (h1 : p < n) (hn : n <= 20) : dF [.tup (xs.map D.int), .int p] h = .ok (.tup ((wk xs p).map D.int)) h := by
  have c := uN o h0 h1
  have clt := c.lt
  have ixl : ∀ ds : List D, dIx (.ref 0) (.int (-1)) [.lst ds] = ixK ds (-1) [.lst ds] := fun ds => mW rfl
  have isl : ∀ ds : List D, isL (.ref 0) [.lst ds] = true := fun _ => rfl
  have ap : ∀ (ds : List D) d, ds.length < 1000000 -> du (.ref 0) [d] [.lst ds] = .ok .non [.lst (ds ++ [d])] := fun ds d z => by
    have := rE (h := []) (ds := ds) (d := d) (t := [])
    simpa [z] using this
  have wh := vC (c := WC2) (b := WB2) (cy xs p) (fun _ => [some (.tup (xs.map D.int)), some (.int p), some (.ref 0)]) (fun i => [.lst (((List.range (i + 1)).map (orb xs p)).map D.int)])
    (fun i hi => by
      have ne : ¬ orb xs p (i + 1) = p := c.fst i hi
      have e1 := wu (xs := xs) (p := p) (i := i) (h := [.lst (((List.range (i + 1)).map (orb xs p)).map D.int)])
      generalize ((List.range (i + 1)).map (orb xs p)).map D.int = W at *
      simp [WC2, ixl, e1, wb o h0 h1, ne])
    (fun i hi => by
      have e1 := wu (xs := xs) (p := p) (i := i) (h := [.lst (((List.range (i + 1)).map (orb xs p)).map D.int)])
      have z : (((List.range (i + 1)).map (orb xs p)).map D.int).length < 1000000 := by simp; omega
      have e2 : ((List.range (i + 1 + 1)).map (orb xs p)).map D.int = ((List.range (i + 1)).map (orb xs p)).map D.int ++ [.int (orb xs p (i + 1))] := by rw [xl xs p (i + 1), List.map_append]; rfl
      rw [e2]
      generalize ((List.range (i + 1)).map (orb xs p)).map D.int = W at *
      simp [WB2, ixl, isl, e1, wb o h0 h1, ap _ _ z])
    (by
      have e1 := wu (xs := xs) (p := p) (i := cy xs p) (h := [.lst (((List.range (cy xs p + 1)).map (orb xs p)).map D.int)])
      have eq : orb xs p (cy xs p + 1) = p := c.ret
      generalize ((List.range (cy xs p + 1)).map (orb xs p)).map D.int = W at *
      simp [WC2, ixl, e1, wb o h0 h1, eq]) 64 (by omega)
  have wh : f_ WC2 WB2 64 [some (.tup (xs.map D.int)), some (.int p), some (.ref 0)] [.lst [.int p]] = .ok (.nx [some (.tup (xs.map D.int)), some (.int p), some (.ref 0)]) [.lst ((wk xs p).map D.int)] := wh
  have tl : bW [.ref 0] [.lst ((wk xs p).map D.int)] = .ok (.tup ((wk xs p).map D.int)) [.lst ((wk xs p).map D.int)] := A9 rfl
  have ex : cf [] (.tup ((wk xs p).map D.int)) [.lst ((wk xs p).map D.int)] = .ok (.tup ((wk xs p).map D.int)) [] := by
    have := cX (h := []) (t := [.lst ((wk xs p).map D.int)]) (d := .tup ((wk xs p).map D.int)) Wf.nil (by simp)
    simpa using this
  have lo1 : bU 0 [.tup (xs.map D.int), .int p] = true := by simp [bU, dD]
  have lo2 : dD 0 (.tup ((wk xs p).map D.int)) = true := by simp [dD]
  rw [Ge]
  generalize (wk xs p).map D.int = W at *
  simp [gT, lo1, bz, wh, tl, ex, lo2]
theorem wJ {ns : List Int} {i x : Int} : x ∈ gU ns i ↔ x ∈ ns \/ x = i := by
  unfold gU
  split
  · rename_i c
    obtain ⟨y, hy, e⟩ := List.any_eq_true.mp c
    rw [beq_iff_eq] at e
    subst e
    exact ⟨.inl, fun z => z.elim id fun e => e ▸ hy⟩
  · rw [List.mem_append, List.mem_singleton]
theorem An {ns : List Int} {i : Int} (h : ns.Nodup) : (gU ns i).Nodup := by
  unfold gU
  split
  · exact h
  · rename_i c
    have : i ∉ ns := fun hm => c (List.any_eq_true.mpr ⟨i, hm, by simp⟩)
    exact List.nodup_append.mpr ⟨h, List.nodup_cons.mpr ⟨by simp, List.nodup_nil⟩, fun a ha b hb => by rw [List.mem_singleton] at hb; subst hb; exact fun e => this (e ▸ ha)⟩
theorem nZ {x : Int} : ∀ (ws ns : List Int), x ∈ ws.foldl gU ns ↔ x ∈ ns \/ x ∈ ws
  | [], ns => by simp
  | w :: ws, ns => by
    rw [List.foldl_cons, nZ ws, wJ, List.mem_cons]
    constructor
    · rintro ((a | a) | a)
      · exact .inl a
      · exact .inr (.inl a)
      · exact .inr (.inr a)
    · rintro (a | a | a)
      · exact .inl (.inl a)
      · exact .inl (.inr a)
      · exact .inr a
theorem wH : ∀ (ws ns : List Int), ns.Nodup -> (ws.foldl gU ns).Nodup
  | [], ns, h => h
  | w :: ws, ns, h => wH ws _ (An h)
noncomputable def dnI (n : Nat) : List Int := (List.range n).map fun (i : Nat) => (n : Int) - 1 - i
theorem E_ : ∀ n : Nat, n < 21 -> 1 <= n -> (Ad [.int ((n : Int) - 1), .int (-1), .int (-1)]).bind intsOf = some (dnI n) := by decide +kernel
theorem HQ {n : Nat} {h : Hh} (h1 : 1 <= n) (hn : n <= 20) : mX [.int ((n : Int) - 1), .int (-1), .int (-1)] h = .ok (.snap ((dnI n).map D.int)) h := by
  have q := E_ n (by omega) h1
  obtain ⟨xs, e1, e2⟩ := Option.bind_eq_some_iff.mp q
  rw [<- dy e2]
  simp only [mX, e1]
noncomputable def zm : MS := (dA (aI asB (ao (wm true) (ag 3) (ag 2))) (aG (bC 4 (ah dF (aa (ag 0) (aa (ag 3) ak))))
    (aG (cb (fe du (ag 1) (aa (ag 4) ak)))
    (eN (dH (ag 4)) (gN 5) (cb (pJ lg (ag 2) (aa (ag 5) ak)))))) bX)
noncomputable def tpI (b : List Int) : D := .tup (b.map D.int)
theorem gZ {h : Hh} {R : O} {S : List Int} : setOf (h ++ [R, .set S]) (h.length + 1) = some S := by
  unfold setOf
  rw [List.getElem?_append_right (by omega), show h.length + 1 - h.length = 1 by omega]
  rfl
theorem vf {h : Hh} {R o o2 : O} : (h ++ [R, o]).set (h.length + 1) o2 = h ++ [R, o2] := by
  rw [List.set_append_right _ _ (by omega), show h.length + 1 - h.length = 1 by omega]
  rfl
theorem qZ {n : Nat} {d0 d1 d3 d4 : Option D} {R : O} {h : Hh} : ∀ (ws S : List Int) (y : Option D), (∀ x ∈ ws, 0 <= x /\ x < n) -> (∀ x ∈ S, 0 <= x /\ x < n) -> S.Nodup -> n <= 20 -> 0 < ws.length -> ef (gN 5) (cb (pJ lg (ag 2) (aa (ag 5) ak))) (ws.map D.int) [d0, d1, some (.ref (h.length + 1)), d3, d4, y] (h ++ [R, .set S]) = .ok (.nx [d0, d1, some (.ref (h.length + 1)), d3, d4, (ws.getLast?).map D.int]) (h ++ [R, .set (ws.foldl gU S)])
  | [], S, y, _, _, _, _, h => by simp at h
  | [w], S, y, hw, hS, nd, hn, _ => by
    have lS := kF n S nd hS
    have is : isS (.ref (h.length + 1)) (h ++ [R, .set S]) = true := Al gZ
    have ad : lg (.ref (h.length + 1)) [.int w] (h ++ [R, .set S]) = .ok .non (h ++ [R, .set (gU S w)]) := by
      rw [uA (ns := S) gZ, if_pos (by omega), vf]
    rw [List.map_cons, uF]
    simp [wY, is, ad, xD]
  | w :: v :: ws, S, y, hw, hS, nd, hn, _ => by
    have lS := kF n S nd hS
    have w0 := hw w List.mem_cons_self
    have q := qZ (d0 := d0) (d1 := d1) (d3 := d3) (d4 := d4) (R := R) (h := h) (v :: ws) (gU S w) (some (.int w)) (fun x hx => hw x (List.mem_cons_of_mem _ hx)) (fun x hx => by
      rcases wJ.mp hx with z | z
      · exact hS x z
      · subst z; exact w0) (An nd) hn (by simp)
    have is : isS (.ref (h.length + 1)) (h ++ [R, .set S]) = true := Al gZ
    have ad : lg (.ref (h.length + 1)) [.int w] (h ++ [R, .set S]) = .ok .non (h ++ [R, .set (gU S w)]) := by
      rw [uA (ns := S) gZ, if_pos (by omega), vf]
    rw [List.map_cons, uF, List.foldl_cons, List.getLast?_cons_cons]
    simp only [List.map_cons] at q ⊢
    simp [wY, is, ad, q]
structure RI (n : Nat) (xs : List Int) (i : Nat) (R : List (List Int)) (S : List Int) : Prop where
  nd : S.Nodup
  rng : ∀ x ∈ S, 0 <= x /\ x < n
  mem : ∀ x, x ∈ S ↔ ∃ q : Int, (n : Int) - i <= q /\ q < n /\ x ∈ wk xs q
  res : R = (((List.range i).map fun (j : Nat) => (n : Int) - 1 - j).filter (kJ xs)).map (wk xs)
theorem Ae {n i : Nat} {xs : List Int} {R : List (List Int)} (h : R = (((List.range i).map fun (j : Nat) => (n : Int) - 1 - j).filter (kJ xs)).map (wk xs)) : (((List.range (i + 1)).map fun (j : Nat) => (n : Int) - 1 - j).filter (kJ xs)).map (wk xs) = if kJ xs ((n : Int) - 1 - i) = true then R ++ [wk xs ((n : Int) - 1 - i)] else R := by
  rw [List.range_succ, List.map_append, List.filter_append, List.map_append, <- h]
  by_cases c : kJ xs ((n : Int) - 1 - i) = true
  · rw [if_pos c]; simp [c]
  · rw [if_neg c]; simp [c]
theorem RI.step {n : Nat} {xs : List Int} {i : Nat} {R : List (List Int)} {S : List Int} (o : Ord n xs) (hi : i < n) (r : RI n xs i R S) :
    ((S.any (· == (n : Int) - 1 - i)) = true /\ RI n xs (i + 1) R S) \/ ((S.any (· == (n : Int) - 1 - i)) = false /\ RI n xs (i + 1) (R ++ [wk xs ((n : Int) - 1 - i)]) ((wk xs ((n : Int) - 1 - i)).foldl gU S)) := by
  obtain ⟨p, hp⟩ : ∃ p : Int, (n : Int) - 1 - i = p := ⟨_, rfl⟩
  have p0 : 0 <= p := by omega
  have p1 : p < n := by omega
  have rs := Ae r.res
  rw [hp] at rs ⊢
  have iff : (p ∈ S) ↔ ¬ kJ xs p = true := by
    rw [r.mem, nV]
    constructor
    · rintro ⟨q, q0, q1, hm⟩ h
      have := h q (kX o (by omega) q1 hm)
      omega
    · intro h
      refine Classical.byContradiction fun z => h fun x hx => ?_
      refine Classical.byContradiction fun hlt => z ?_
      have hr := oX o p0 p1 hx
      exact ⟨x, by omega, hr.2, kX o p0 p1 hx⟩
  by_cases c : p ∈ S
  · refine .inl ⟨List.any_eq_true.mpr ⟨p, c, by simp⟩, r.nd, r.rng, fun x => ?_, ?_⟩
    · rw [r.mem]
      constructor
      · rintro ⟨q, q0, q1, hm⟩; exact ⟨q, by omega, q1, hm⟩
      · rintro ⟨q, q0, q1, hm⟩
        by_cases e : q = p
        · subst e
          obtain ⟨q', a, b, hm'⟩ := (r.mem q).mp c
          exact ⟨q', a, b, pE o (by omega) b hm hm'⟩
        · exact ⟨q, by omega, q1, hm⟩
    · rw [rs, if_neg (iff.mp c)]
  · refine .inr ⟨?_, wH _ _ r.nd, fun x hx => ?_, fun x => ?_, ?_⟩
    · cases z : S.any (· == p) with
      | false => rfl
      | true =>
        obtain ⟨y, hy, e⟩ := List.any_eq_true.mp z
        rw [beq_iff_eq] at e
        exact absurd (e ▸ hy) c
    · rcases (nZ _ _).mp hx with z | z
      · exact r.rng x z
      · exact oX o p0 p1 z
    · rw [nZ, r.mem]
      constructor
      · rintro (⟨q, q0, q1, hm⟩ | hm)
        · exact ⟨q, by omega, q1, hm⟩
        · exact ⟨p, by omega, p1, hm⟩
      · rintro ⟨q, q0, q1, hm⟩
        by_cases e : q = p
        · subst e; exact .inr hm
        · exact .inl ⟨q, by omega, q1, hm⟩
    · have : kJ xs p = true := Classical.byContradiction fun z => c (iff.mpr z)
      rw [rs, if_pos this]
theorem EK (n : Nat) : (((List.range n).map fun (j : Nat) => (n : Int) - 1 - j)).reverse = (List.range n).map fun (i : Nat) => (i : Int) := by
  refine List.ext_getElem (by simp) fun i h1 h2 => ?_
  simp only [List.length_map, List.length_range] at h2
  rw [List.getElem_reverse]
  simp
  omega
theorem zk {n : Nat} {xs : List Int} {h : Hh} (o : Ord n xs) (hn : n <= 20) : ∃ S y3 y4 y5, ef (gN 3) zm ((dnI n).map D.int) [some (.tup (xs.map D.int)), some (.ref h.length), some (.ref (h.length + 1)), none, none, none] (h ++ [.lst [], .set []]) = .ok (.nx [some (.tup (xs.map D.int)), some (.ref h.length), some (.ref (h.length + 1)), y3, y4, y5]) (h ++ [.lst ((ft n xs).map tpI).reverse, .set S]) := by
  obtain ⟨q, q2⟩ := wQ (σ := List (List Int) × List Int × Option D × Option D × Option D) (tg := gN 3) (body := zm) (fun (i : Nat) => D.int ((n : Int) - 1 - i)) n (fun s => [some (.tup (xs.map D.int)), some (.ref h.length), some (.ref (h.length + 1)), s.2.2.1, s.2.2.2.1, s.2.2.2.2]) (fun s => h ++ [.lst (s.1.map tpI), .set s.2.1])
    (fun s i => if (s.2.1.any (· == (n : Int) - 1 - i)) = true then (s.1, s.2.1, some (.int ((n : Int) - 1 - i)), s.2.2.2.1, s.2.2.2.2) else (s.1 ++ [wk xs ((n : Int) - 1 - i)], (wk xs ((n : Int) - 1 - i)).foldl gU s.2.1, some (.int ((n : Int) - 1 - i)), some (tpI (wk xs ((n : Int) - 1 - i))), ((wk xs ((n : Int) - 1 - i)).getLast?).map D.int))
    (fun i s => RI n xs i s.1 s.2.1 /\ s.1.length <= i) ([], [], none, none, none) ⟨⟨List.nodup_nil, by simp, fun x => ⟨by simp, fun ⟨q, a, b, _⟩ => by omega⟩, rfl⟩, by simp⟩ (fun i s hi ⟨r, l⟩ => by
      obtain ⟨R, S, y3, y4, y5⟩ := s
      dsimp only at r l ⊢
      obtain ⟨p, hp⟩ : ∃ p : Int, (n : Int) - 1 - i = p := ⟨_, rfl⟩
      have st := r.step o hi
      rw [hp] at st ⊢
      have ins : ∀ (b : Bool), (S.any (· == p)) = b -> wm true (.int p) (.ref (h.length + 1)) (h ++ [.lst (R.map tpI), .set S]) = .ok (.bl (!b)) (h ++ [.lst (R.map tpI), .set S]) := fun b e => by
        rw [G9 (ns := S) gZ, e]; rfl
      rcases st with ⟨c, r'⟩ | ⟨c, r'⟩
      · rw [if_pos c]
        exact ⟨⟨r', show R.length <= i + 1 by omega⟩, .inl (by simp [zm, ins _ c])⟩
      · rw [if_neg (by rw [c]; exact Bool.false_ne_true)]
        refine ⟨⟨r', by simp; omega⟩, .inl ?_⟩
        have fr := EI (p := p) (h := h ++ [.lst (R.map tpI), .set S]) o (by omega) (by omega) hn
        have isl : isL (.ref h.length) (h ++ [.lst (R.map tpI), .set S]) = true := zY eZ
        have ap : du (.ref h.length) [.tup ((wk xs p).map D.int)] (h ++ [.lst (R.map tpI), .set S]) = .ok .non (h ++ [.lst ((R ++ [wk xs p]).map tpI), .set S]) := by
          have := rE (h := h) (ds := R.map tpI) (d := .tup ((wk xs p).map D.int)) (t := [.set S])
          have z : (R.map tpI).length < 1000000 := by simp; omega
          rw [if_pos z] at this
          rw [List.map_append]
          exact this
        have al := qZ (n := n) (d0 := some (.tup (xs.map D.int))) (d1 := some (.ref h.length)) (d3 := some (.int p)) (d4 := some (.tup ((wk xs p).map D.int))) (R := .lst ((R ++ [wk xs p]).map tpI)) (h := h) (wk xs p) S y5 (fun x hx => oX o (by omega) (by omega) hx) r.rng r.nd hn (by rw [ky]; omega)
        generalize hW : (wk xs p).map D.int = W at *
        generalize (R ++ [wk xs p]).map tpI = R2 at *
        generalize R.map tpI = R1 at *
        simp [zm, ins _ c, fr, isl, ap, al, tpI, hW])
  obtain ⟨r, l⟩ := q2
  generalize (List.range n).foldl _ _ = s at q r l
  obtain ⟨R, S, y3, y4, y5⟩ := s
  dsimp only at q r l
  have rr : R.map tpI = ((ft n xs).map tpI).reverse := by
    have : (R.map tpI).reverse = (ft n xs).map tpI := by
      rw [r.res, <- List.map_reverse, <- List.map_reverse, <- List.filter_reverse, EK]; rfl
    rw [<- this, List.reverse_reverse]
  refine ⟨S, y3, y4, y5, ?_⟩
  rw [<- rr]
  have : (dnI n).map D.int = (List.range n).map fun (i : Nat) => D.int ((n : Int) - 1 - i) := by rw [dnI, List.map_map]; rfl
  rw [this]; exact q
theorem cr3 (a : MA) (env : En) (h : Hh) : dY mX a env h = (a env h).bind mX := rfl
theorem Fp {h : Hh} {L : List D} {t : Hh} : qP aC (.ref h.length) (h ++ .lst L.reverse :: t) = .ok (.frl L) (h ++ .lst L.reverse :: t) := by
  delta qP; dsimp only; rw [eZ]; dsimp only; rw [List.reverse_reverse]; rfl
theorem Bk {n : Nat} {xs : List Int} : deep 8 (.frl ((ft n xs).map tpI)) = true := by
  have : ((ft n xs).map tpI).all (deep 7) = true := by
    rw [List.all_map, List.all_eq_true]
    intro b _
    simp [tpI]
  simpa [deep] using this
theorem ud {n : Nat} {xs : List Int} {h : Hh} (o : Ord n xs) (h1 : 1 <= n) (hn : n <= 20) : cw [.tup (xs.map D.int)] h = .ok (.frl ((ft n xs).map tpI)) h := by
  have oe := fH (h := []) o h1 (by omega) Wf.nil
  obtain ⟨S, y3, y4, y5, q⟩ := zk (h := []) o hn
  have dn := HQ (h := [.lst [], .set []]) h1 hn
  have rv := Fp (h := []) (L := (ft n xs).map tpI) (t := [.set S])
  have ex := cX (h := []) (t := [.lst ((ft n xs).map tpI).reverse, .set S]) (d := .frl ((ft n xs).map tpI)) Wf.nil Bk
  have lo1 : bU 0 [.tup (xs.map D.int)] = true := by simp [bU, dD]
  have lo2 : dD 0 (.frl ((ft n xs).map tpI)) = true := by simp only [dD]; exact jH fun b => by simp [tpI, dD]
  have hl := o.len
  have e : cw = gT (fun ds h => ((b8 6 (aG (cb (ah aO (aa (ag 0) ak)))
    (aG (bC 1 (ah (fo iY) ak))
    (aG (bC 2 (ah p9 ak))
    (aG (eN (dY mX (aa (ao fq (ah bF (aa (ag 0) ak)) (cC (.int 1))) (aa (cUn jQ (cC (.int 1))) (aa (cUn jQ (cC (.int 1))) ak)))) (gN 3) zm)
    (br (cUn (qP aC) (ag 1)))))))) ds h).bind (cf h)) := rfl
  rw [e]
  simp only [List.nil_append, List.length_nil, Nat.zero_add] at q rv ex
  generalize (ft n xs).map tpI = RN at *
  simp [D7, gT, lo1, bz, oe, hl, cr3, dn, q, rv, ex, lo2]
theorem iM {σ : Type} {tg : D -> En -> Hh -> R En} {body : MS} (enc : Nat -> D) (N : Nat) (E : σ -> En) (G : σ -> Hh) (I : Nat -> σ -> Prop)
    (st : ∀ i s, i < N -> I i s -> ∃ s', I (i + 1) s' /\ (tg (enc i) (E s) (G s)).bind body = .ok (.nx (E s')) (G s')) :
    ∀ (k i : Nat) (s : σ), i + k = N -> I i s -> ∃ s', ef tg body ((List.range' i k).map enc) (E s) (G s) = .ok (.nx (E s')) (G s') /\ I N s' := by
  intro k
  induction k with
  | zero =>
    intro i s e hi
    have : i = N := by omega
    subst this
    exact ⟨s, rfl, hi⟩
  | succ k ih =>
    intro i s e hi
    obtain ⟨s1, a, b⟩ := st i s (by omega) hi
    obtain ⟨s2, c, d⟩ := ih (i + 1) s1 (by omega) a
    refine ⟨s2, ?_, d⟩
    rw [List.range'_succ, List.map_cons, ef, <- bV, b]
    exact c
noncomputable def cn (n : Nat) (xs : List Int) : List Int := (ft n xs).flatten
theorem EN {l : List Int} {i j : Nat} {v : Int} (hj : j < l.length) : gI (l.set i v) j = if i = j then v else gI l j := by
  rw [bD (by simpa using hj), bD hj, List.getElem_set]
noncomputable def pmx (os : List Int) : Nat -> Int
  | 0 => gI os 0
  | i + 1 => max (pmx os i) (gI os (i + 1))
noncomputable def gC (n : Nat) (os : List Int) (i : Nat) : Int := if i + 1 < n then gI os (i + 1) else n
noncomputable def nxI (n : Nat) (os : List Int) (i : Nat) : Int := if pmx os i < gC n os i then pmx os i else gC n os i
theorem zH {n : Nat} {os : List Int} (o : Ord n os) : ∀ i, i < n -> 0 <= pmx os i /\ pmx os i < n
  | 0, h => fF o h
  | i + 1, h => by
    have := zH o i (by omega)
    have := fF o h
    rw [pmx]; omega
structure Tk (n : Nat) (os Z : List Int) : Prop where
  len : Z.length = n
  at' : ∀ j, j < n -> gI Z (gI os j).toNat = nxI n os j
noncomputable def TKB : MS := (dA (aI asB (ao dGt (ag 4) (ag 2))) (aG (eO cF (ag 1) (ag 3) (ag 2)) (bC 2 (ag 4))) (eO cF (ag 1) (ag 3) (ag 4)))
theorem Cs {n : Nat} {os : List Int} (o : Ord n os) : kK (os.map D.int) ((os.drop 1 ++ [(n : Int)]).map D.int) = (List.range' 0 n).map fun (i : Nat) => D.tup [.int (gI os i), .int (gC n os i)] := by
  have hl := o.len
  refine List.ext_getElem? fun i => ?_
  rw [kY, List.getElem?_map, List.getElem?_map, List.getElem?_map]
  by_cases hi : i < n
  · have l1 : i < os.length := by omega
    have e1 : os[i]? = some (gI os i) := by rw [bD l1, List.getElem?_eq_getElem l1]
    have e2 : (os.drop 1 ++ [(n : Int)])[i]? = some (gC n os i) := by
      unfold gC
      by_cases h2 : i + 1 < n
      · rw [if_pos h2, List.getElem?_append_left (by simp; omega), List.getElem?_drop, bD (by omega), List.getElem?_eq_getElem (by omega)]
        congr 2; omega
      · rw [if_neg h2, List.getElem?_append_right (by simp; omega)]
        have : i - (os.drop 1).length = 0 := by simp; omega
        rw [this]; rfl
    have e3 : (List.range' 0 n)[i]? = some i := by rw [<- List.range_eq_range', List.getElem?_range hi]
    rw [e1, e2, e3]; rfl
  · have e1 : os[i]? = none := List.getElem?_eq_none (by omega)
    have e3 : (List.range' 0 n)[i]? = none := List.getElem?_eq_none (by simp; omega)
    rw [e1, e3]; rfl
theorem CQ {n : Nat} {os : List Int} {h : Hh} (o : Ord n os) (h1 : 1 <= n) : ∃ Z y2 y3 y4, Tk n os Z /\ ef (gT2 3 4) TKB ((List.range' 0 n).map fun (i : Nat) => D.tup [.int (gI os i), .int (gC n os i)]) [some (.tup (os.map D.int)), some (.ref h.length), some (.int (gI os 0)), none, none] (h ++ [.lst (List.replicate n (.int 0))]) = .ok (.nx [some (.tup (os.map D.int)), some (.ref h.length), y2, y3, y4]) (h ++ [.lst (Z.map D.int)]) := by
  obtain ⟨s, q, e⟩ := iM (σ := List Int × Int × Option D × Option D) (tg := gT2 3 4) (body := TKB) (fun (i : Nat) => D.tup [.int (gI os i), .int (gC n os i)]) n (fun s => [some (.tup (os.map D.int)), some (.ref h.length), some (.int s.2.1), s.2.2.1, s.2.2.2]) (fun s => h ++ [.lst (s.1.map D.int)]) (fun i s => s.1.length = n /\ (i < n -> s.2.1 = pmx os i) /\ ∀ j, j < i -> gI s.1 (gI os j).toNat = nxI n os j) (fun i s hi hs => by
    obtain ⟨Z, f, y3, y4⟩ := s
    obtain ⟨zl, hf, hv⟩ := hs
    dsimp only at zl hf hv ⊢
    have hf := hf hi
    subst hf
    have r := fF o hi
    obtain ⟨p, hp⟩ : ∃ p : Nat, gI os i = (p : Int) := ⟨(gI os i).toNat, by omega⟩
    have pl : p < Z.length := by omega
    have st : ∀ v : Int, cF (.ref h.length) (.int (p : Int)) (.int v) (h ++ [.lst (Z.map D.int)]) = .ok () (h ++ [.lst ((Z.set p v).map D.int)]) := fun v => by
      rw [ip eZ (show ixN (Z.map D.int).length (p : Int) = some p from by rw [List.length_map]; exact k7 rfl pl), jL, List.map_set]
    have vals : ∀ v, v = nxI n os i -> ∀ j, j < i + 1 -> gI (Z.set p v) (gI os j).toNat = nxI n os j := fun v ev j hj => by
      have rj := fF o (show j < n by omega)
      rw [EN (by omega)]
      by_cases c : p = (gI os j).toNat
      · rw [if_pos c]
        have : gI os j = gI os i := by omega
        have ji : j = i := by
          by_cases z : j = i
          · exact z
          · exfalso
            have l1 : j < os.length := by rw [o.len]; omega
            have l2 : i < os.length := by rw [o.len]; omega
            rw [bD l1, bD l2] at this
            exact z ((List.getElem_inj o.nd).mp this)
        rw [ji]; exact ev
      · rw [if_neg c]
        have : j ≠ i := fun z => c (by subst z; omega)
        exact hv j (by omega)
    by_cases c : pmx os i < gC n os i
    · refine ⟨(Z.set p (pmx os i), gC n os i, some (.int (gI os i)), some (.int (gC n os i))), ⟨by simp [zl], fun hi2 => ?_, vals _ (by unfold nxI; rw [if_pos c])⟩, ?_⟩
      · dsimp only
        have : gC n os i = gI os (i + 1) := by unfold gC; rw [if_pos hi2]
        rw [this] at c ⊢
        rw [pmx]; omega
      · dsimp only
        rw [hp]
        simp [TKB, c, st]
    · refine ⟨(Z.set p (gC n os i), pmx os i, some (.int (gI os i)), some (.int (gC n os i))), ⟨by simp [zl], fun hi2 => ?_, vals _ (by unfold nxI; rw [if_neg c])⟩, ?_⟩
      · dsimp only
        have : gC n os i = gI os (i + 1) := by unfold gC; rw [if_pos hi2]
        rw [this] at c
        rw [pmx]; omega
      · dsimp only
        rw [hp]
        simp [TKB, c, st]) n 0 (List.replicate n 0, gI os 0, none, none) (by omega) ⟨by simp, fun _ => rfl, fun j hj => by omega⟩
  obtain ⟨Z, f, y3, y4⟩ := s
  obtain ⟨zl, hf, hv⟩ := e
  dsimp only at zl hf hv q
  refine ⟨Z, some (.int f), y3, y4, ⟨zl, hv⟩, ?_⟩
  rw [List.map_replicate] at q
  exact q
theorem Dl {n : Nat} {os : List Int} {h : Hh} (o : Ord n os) (h1 : 1 <= n) (hn : n <= 20) (w : Wf h) : ∃ Z, Tk n os Z /\ d8 [.tup (os.map D.int)] h = .ok (.tup (Z.map D.int)) h := by
  obtain ⟨Z, y2, y3, y4, tk, q⟩ := CQ (h := h) o h1
  refine ⟨Z, tk, ?_⟩
  have hl := o.len
  have oe := fH (h := h) o h1 hn w
  rw [<- Cs o] at q
  have ct : lB os (some 1) none = os.drop 1 := yz os 1
  have cd : cutD (os.map D.int) (some 1) none = (os.drop 1).map D.int := by rw [n4, ct]
  have e1 : (os.drop 1 ++ [(n : Int)]).map D.int = (os.drop 1).map D.int ++ [.int n] := by simp
  rw [e1] at q
  have i0 := dE (h := h ++ [.lst (List.replicate n (.int 0))]) (ns := os) (i := 0) (j := 0) rfl (by omega)
  have tu : bW [.ref h.length] (h ++ [.lst (Z.map D.int)]) = .ok (.tup (Z.map D.int)) (h ++ [.lst (Z.map D.int)]) := by simp [bW, j8]
  have ex := cX (h := h) (t := [.lst (Z.map D.int)]) (d := .tup (Z.map D.int)) w (by simp [deep])
  have z1 : n <= 1000000 := by omega
  have z2 : (os.drop 1).length + 1 <= 1000000 := by simp; omega
  have z3 : ((os.drop 1).map D.int).length + 1 <= 1000000 := by simp; omega
  have z4 : 1 <= (n : Int) := by omega
  have e2 : d8 = fun ds h => ((b8 5 (aG (cb (ah aO (aa (ag 0) ak)))
    (aG (bC 1 (ao (f7 iY) (ah (fo aC) (aa (cC (.int 0)) ak)) (ah bF (aa (ag 0) ak))))
    (aG (bC 2 (ao dIx (ag 0) (cC (.int 0))))
    (aG (eN (xt (aa (ag 0) (aa (ao (bB aC) (gu aC (ag 0) (iU (cC (.int 1))) gk) (ah lW (aa (ah bF (aa (ag 0) ak)) ak))) ak))) (gT2 3 4) TKB)
    (br (ah bW (aa (ag 1) ak)))))))) ds h).bind (cf h) := rfl
  rw [e2]
  generalize (os.drop 1).map D.int = OD at *
  generalize Z.map D.int = ZD at *
  simp [bz, oe, hl, z1, z4, i0, cd, z3, q, tu, ex]
structure Bks (n : Nat) (os : List Int) (Bs : List (List Int)) : Prop where
  fl : Bs.flatten = os
  ne : ∀ b ∈ Bs, b ≠ []
  hd : ∀ b ∈ Bs, ∀ x ∈ b, x <= b.headD 0
  up : (Bs.map fun b => b.headD 0).Pairwise (· < ·)
theorem t6 {n : Nat} {xs : List Int} (o : Ord n xs) : Bks n (cn n xs) (ft n xs) := by
  have hh : ∀ p, (wk xs p).headD 0 = p := fun p => by
    unfold wk; rw [List.range_succ_eq_map]; rfl
  refine ⟨rfl, fun b hb => ?_, fun b hb x hx => ?_, ?_⟩
  · obtain ⟨p, hp, rfl⟩ := List.mem_map.mp hb
    intro z
    have := ky xs p
    rw [z] at this; simp at this
  · obtain ⟨p, hp, rfl⟩ := List.mem_map.mp hb
    rw [hh]
    exact (nV.mp (List.mem_filter.mp hp).2) x hx
  · have e : ((ft n xs).map fun b => b.headD 0) = ((List.range n).map fun (i : Nat) => (i : Int)).filter (kJ xs) := by
      unfold ft
      rw [List.map_map]
      refine Eq.trans (List.map_congr_left fun p _ => hh p) ?_
      simp
    rw [e]
    refine List.Pairwise.filter _ ?_
    rw [List.pairwise_map]
    exact List.pairwise_lt_range.imp fun h => by omega
theorem p6 (os : List Int) : ∀ i k, k <= i -> gI os k <= pmx os i
  | 0, k, h => by have : k = 0 := by omega
                  subst this; exact Int.le_refl _
  | i + 1, k, h => by
    rw [pmx]
    by_cases c : k = i + 1
    · subst c; omega
    · have := p6 os i k (by omega); omega
theorem nP (os : List Int) : ∀ i, ∃ k, k <= i /\ gI os k = pmx os i
  | 0 => ⟨0, Nat.le_refl _, rfl⟩
  | i + 1 => by
    obtain ⟨k, hk, e⟩ := nP os i
    by_cases c : gI os (i + 1) <= pmx os i
    · exact ⟨k, by omega, by rw [e, pmx]; omega⟩
    · exact ⟨i + 1, Nat.le_refl _, by rw [pmx]; omega⟩
theorem zS {A B : List Int} {i : Nat} (h : i < A.length) : gI (A ++ B) i = gI A i := by
  rw [bD (by simp; omega), bD h, List.getElem_append_left h]
theorem B3 {A B : List Int} {j : Nat} (h : j < B.length) : gI (A ++ B) (A.length + j) = gI B j := by
  rw [bD (by simp; omega), bD h, List.getElem_append_right (by omega)]
  congr 1; omega
theorem vF : ∀ (Bs : List (List Int)) (i : Nat), i < Bs.flatten.length -> ∃ A b C j, Bs = A ++ b :: C /\ j < b.length /\ i = A.flatten.length + j
  | [], i, h => by simp at h
  | b :: Bs, i, h => by
    by_cases c : i < b.length
    · exact ⟨[], b, Bs, i, rfl, c, by simp⟩
    · rw [List.flatten_cons, List.length_append] at h
      obtain ⟨A, d, C, j, e, hj, ei⟩ := vF Bs (i - b.length) (by omega)
      refine ⟨b :: A, d, C, j, by rw [e]; rfl, hj, ?_⟩
      rw [List.flatten_cons, List.length_append]; omega
noncomputable def cyc (b : List Int) (j : Nat) : Int := if j + 1 < b.length then gI b (j + 1) else b.headD 0
theorem wa {n : Nat} {os : List Int} {A C : List (List Int)} {b : List Int} {j : Nat} (o : Ord n os) (k : Bks n os (A ++ b :: C)) (hj : j < b.length) : gI os (A.flatten.length + j) = gI b j /\ nxI n os (A.flatten.length + j) = cyc b j := by
  have fl : os = A.flatten ++ (b ++ C.flatten) := by rw [<- k.fl, List.flatten_append, List.flatten_cons]
  have ln : A.flatten.length + (b.length + C.flatten.length) = n := by rw [<- o.len, fl]; simp
  have bm : b ∈ A ++ b :: C := by simp
  have at0 : ∀ t, t < b.length -> gI os (A.flatten.length + t) = gI b t := fun t ht => by
    rw [fl, B3 (by simp; omega), zS ht]
  have h0 : gI b 0 = b.headD 0 := by cases b <;> rfl
  have ups := k.up
  rw [List.map_append, List.map_cons, List.pairwise_append] at ups
  have lessA : ∀ x ∈ A.flatten, x < b.headD 0 := fun x hx => by
    obtain ⟨a, ha, hx⟩ := List.mem_flatten.mp hx
    have u1 := k.hd a (List.mem_append_left _ ha) x hx
    have u2 := ups.2.2 (a.headD 0) (List.mem_map.mpr ⟨a, ha, rfl⟩) (b.headD 0) List.mem_cons_self
    omega
  have pm : pmx os (A.flatten.length + j) = b.headD 0 := by
    refine Int.le_antisymm ?_ ?_
    · obtain ⟨t, ht, e⟩ := nP os (A.flatten.length + j)
      rw [<- e]
      by_cases c : t < A.flatten.length
      · rw [fl, zS c]
        have := lessA _ (fT (ns := A.flatten) (j := t) c)
        omega
      · have := at0 (t - A.flatten.length) (by omega)
        rw [show A.flatten.length + (t - A.flatten.length) = t by omega] at this
        rw [this]
        exact k.hd b bm _ (fT (by omega))
    · have := p6 os (A.flatten.length + j) A.flatten.length (by omega)
      have a0 := at0 0 (by omega)
      rw [Nat.add_zero] at a0
      rw [a0, h0] at this
      exact this
  refine ⟨at0 j hj, ?_⟩
  unfold nxI cyc
  rw [pm]
  by_cases c : j + 1 < b.length
  · have f : gC n os (A.flatten.length + j) = gI b (j + 1) := by
      unfold gC
      rw [if_pos (by omega), show A.flatten.length + j + 1 = A.flatten.length + (j + 1) by omega, at0 _ c]
    have := k.hd b bm (gI b (j + 1)) (fT c)
    rw [f, if_pos c, if_neg (by omega)]
  · rw [if_neg c]
    have g : b.headD 0 < gC n os (A.flatten.length + j) := by
      unfold gC
      by_cases c2 : A.flatten.length + j + 1 < n
      · rw [if_pos c2]
        cases C with
        | nil => rw [List.flatten_nil, List.length_nil] at ln; omega
        | cons d C =>
          have dn : d ≠ [] := k.ne d (by simp)
          have dl : 0 < d.length := List.length_pos_iff.mpr dn
          have e : gI os (A.flatten.length + j + 1) = gI d 0 := by
            rw [fl, show A.flatten.length + j + 1 = A.flatten.length + (b.length + 0) by omega, B3 (by simp; omega), B3 (by simp; omega), List.flatten_cons, zS dl]
          have d0 : gI d 0 = d.headD 0 := by cases d <;> rfl
          rw [e, d0]
          have u := ups.2.1
          rw [List.map_cons, List.pairwise_cons] at u
          exact u.1 _ List.mem_cons_self
      · rw [if_neg c2]
        have : b.headD 0 ∈ os := by
          rw [fl, <- h0]
          exact List.mem_append_right _ (List.mem_append_left _ (fT (by omega)))
        exact o.hi _ this
    rw [if_pos g]
theorem zJ {n : Nat} {os Z : List Int} {Bs : List (List Int)} (o : Ord n os) (k : Bks n os Bs) : Tk n os Z ↔ Z.length = n /\ ∀ b ∈ Bs, ∀ j, j < b.length -> gI Z (gI b j).toNat = cyc b j := by
  constructor
  · intro t
    refine ⟨t.len, fun b hb j hj => ?_⟩
    obtain ⟨A, C, rfl⟩ := List.append_of_mem hb
    obtain ⟨e1, e2⟩ := wa o k hj
    have l : A.flatten.length + j < n := by
      rw [<- o.len, <- k.fl, List.flatten_append, List.flatten_cons]; simp; omega
    rw [<- e1, t.at' _ l, e2]
  · rintro ⟨l, v⟩
    refine ⟨l, fun i hi => ?_⟩
    obtain ⟨A, b, C, j, e, hj, rfl⟩ := vF Bs i (by rw [k.fl, o.len]; exact hi)
    subst e
    obtain ⟨e1, e2⟩ := wa o k hj
    rw [e1, e2]
    exact v b (by simp) j hj
theorem GQ {n : Nat} {xs : List Int} (o : Ord n xs) {p : Int} (h0 : 0 <= p) (h1 : p < n) : (wk xs p).Nodup := by
  have c := uN o h0 h1
  refine List.pairwise_iff_getElem.mpr fun i j hi hj hij e => ?_
  unfold wk at hi hj e
  simp only [List.length_map, List.length_range] at hi hj
  simp only [List.getElem_map, List.getElem_range] at e
  have := qe o h0 h1 (j - i) i (by rw [show i + (j - i) = j by omega]; exact e)
  exact c.fst (j - i - 1) (by omega) (by rw [show j - i - 1 + 1 = j - i by omega]; exact this)
theorem tI {n : Nat} {xs b : List Int} (h : b ∈ ft n xs) : ∃ p : Int, 0 <= p /\ p < n /\ kJ xs p = true /\ b = wk xs p := by
  obtain ⟨p, hp, rfl⟩ := List.mem_map.mp h
  obtain ⟨a, c⟩ := List.mem_filter.mp hp
  obtain ⟨i, hi, rfl⟩ := List.mem_map.mp a
  have := List.mem_range.mp hi
  exact ⟨_, by omega, by omega, c, rfl⟩
theorem zX {n : Nat} {xs : List Int} (o : Ord n xs) {x : Int} (h0 : 0 <= x) (h1 : x < n) : x ∈ cn n xs := by
  have pm : jc (wk xs x) ∈ wk xs x := max_mem (by rw [ky]; omega)
  generalize hp : jc (wk xs x) = p at pm
  have pr := oX o h0 h1 pm
  have tp : kJ xs p = true := nV.mpr fun y hy => by
    have := pE o h0 h1 hy pm
    rw [<- hp]; exact le_max this
  refine List.mem_flatten.mpr ⟨wk xs p, List.mem_map.mpr ⟨p, List.mem_filter.mpr ⟨List.mem_map.mpr ⟨p.toNat, List.mem_range.mpr (by omega), by omega⟩, tp⟩, rfl⟩, kX o h0 h1 pm⟩
theorem Dv {n : Nat} {xs : List Int} (o : Ord n xs) : (cn n xs).Nodup := by
  unfold cn
  refine List.pairwise_flatten.mpr ⟨fun b hb => ?_, ?_⟩
  · obtain ⟨p, h0, h1, _, rfl⟩ := tI hb
    exact GQ o h0 h1
  · unfold ft
    rw [List.pairwise_map]
    have pw : (((List.range n).map fun (i : Nat) => (i : Int)).filter (kJ xs)).Pairwise (· < ·) := by
      refine List.Pairwise.filter _ ?_
      rw [List.pairwise_map]
      exact List.pairwise_lt_range.imp fun h => by omega
    refine List.Pairwise.imp_of_mem (fun {p q} hp hq lt => ?_) pw
    obtain ⟨a1, c1⟩ := List.mem_filter.mp hp
    obtain ⟨a2, c2⟩ := List.mem_filter.mp hq
    obtain ⟨i, hi, rfl⟩ := List.mem_map.mp a1
    obtain ⟨j, hj, rfl⟩ := List.mem_map.mp a2
    have hi := List.mem_range.mp hi
    have hj := List.mem_range.mp hj
    intro x hx y hy exy
    subst exy
    have s := kX o (p := (i : Int)) (x := x) (by omega) (by omega) hx
    have xr := oX o (by omega) (by omega) hx
    -- q is in x's walk, so in p's
    have t := kX o (p := (j : Int)) (x := x) (by omega) (by omega) hy
    have u := pE o (q := (i : Int)) (p := x) (x := (j : Int)) (by omega) (by omega) t hx
    have := nV.mp c1 _ u
    omega
theorem len_sub : ∀ (xs ys : List Int), xs.Nodup -> (∀ x ∈ xs, x ∈ ys) -> xs.length <= ys.length
  | [], ys, _, _ => by simp
  | x :: xs, ys, nd, h => by
    have nd' := List.nodup_cons.mp nd
    have m := h x List.mem_cons_self
    have := len_sub xs (ys.erase x) nd'.2 fun y hy => by
      have : y ≠ x := fun z => nd'.1 (z ▸ hy)
      exact (List.mem_erase_of_ne this).mpr (h y (List.mem_cons_of_mem _ hy))
    rw [List.length_erase_of_mem m] at this
    have p : 0 < ys.length := List.length_pos_of_mem m
    rw [List.length_cons]; omega
theorem n6 {n : Nat} {xs : List Int} (o : Ord n xs) : Ord n (cn n xs) := by
  have rg : ∀ x ∈ cn n xs, 0 <= x /\ x < n := fun x hx => by
    obtain ⟨b, hb, hx⟩ := List.mem_flatten.mp hx
    obtain ⟨p, h0, h1, _, rfl⟩ := tI hb
    exact oX o h0 h1 hx
  have nd := Dv o
  refine ⟨Nat.le_antisymm (kF n _ nd rg) ?_, nd, fun x hx => (rg x hx).1, fun x hx => (rg x hx).2⟩
  have := len_sub xs (cn n xs) o.nd fun x hx => zX o (o.lo x hx) (o.hi x hx)
  rw [o.len] at this
  exact this
theorem DU {xs : List Int} {p : Int} {j : Nat} (h : j < cy xs p + 1) : gI (wk xs p) j = orb xs p j := by
  rw [bD (by rw [ky]; exact h)]
  simp [wk]
theorem BO {n : Nat} {xs : List Int} (o : Ord n xs) : Tk n (cn n xs) xs := by
  refine (zJ (n6 o) (t6 o)).mpr ⟨o.len, fun b hb j hj => ?_⟩
  obtain ⟨p, h0, h1, _, rfl⟩ := tI hb
  rw [ky] at hj
  rw [DU hj]
  have e : gI xs (orb xs p j).toNat = orb xs p (j + 1) := rfl
  unfold cyc
  rw [e, ky]
  by_cases c : j + 1 < cy xs p + 1
  · rw [if_pos c, DU c]
  · rw [if_neg c]
    have : j = cy xs p := by omega
    subst this
    rw [(uN o h0 h1).ret]
    unfold wk; rw [List.range_succ_eq_map]; rfl
theorem DZ {b : List Int} {H : Hh} {y : Option D} : ∀ (k j : Nat) (acc : List Int), j + k = b.length -> acc.length + k <= 1000000 -> uM H.length (Src.snap (b.map D.int)).rdr (ag 1) (fun e => [y, some e]) k j (H ++ [.lst (acc.map D.int)]) = .ok () (H ++ [.lst ((acc ++ b.drop j).map D.int)])
  | 0, j, acc, e, _ => by
    unfold uM
    have : (Src.snap (b.map D.int)).rdr (H ++ [.lst (acc.map D.int)]) j = some none := by
      simp only [Src.rdr]
      rw [List.getElem?_eq_none (by rw [List.length_map]; omega)]
    rw [this, List.drop_eq_nil_of_le (by omega)]
    simp
  | k + 1, j, acc, e, l => by
    have lt : j < b.length := by omega
    unfold uM
    have g : (Src.snap (b.map D.int)).rdr (H ++ [.lst (acc.map D.int)]) j = some (some (.int b[j])) := by
      simp only [Src.rdr]
      rw [List.getElem?_map, List.getElem?_eq_getElem lt]; rfl
    rw [g]
    have a : zq H.length (.int b[j]) (H ++ [.lst (acc.map D.int)]) = .ok () (H ++ [.lst ((acc ++ [b[j]]).map D.int)]) := by
      unfold zq
      rw [eZ]
      dsimp only
      rw [if_pos (by rw [List.length_map]; omega), jL, List.map_append]
      rfl
    have t : ag 1 [y, some (.int b[j])] (H ++ [.lst (acc.map D.int)]) = .ok (.int b[j]) (H ++ [.lst (acc.map D.int)]) := rfl
    dsimp only
    rw [t, cm, a, cm, DZ k (j + 1) _ (by omega) (by simp; omega), List.drop_eq_getElem_cons lt, List.append_assoc]
    rfl
theorem DO {env : En} {L : List (List Int)} {H : Hh} : ∀ (k i : Nat) (acc : List Int), i + k = L.length -> acc.length + (L.drop i).flatten.length <= 1000000 -> qg H.length (Src.snap (L.map tpI)).rdr (dH (ag 0)) (ag 1) (gO [] env) k i (H ++ [.lst (acc.map D.int)]) = .ok () (H ++ [.lst ((acc ++ (L.drop i).flatten).map D.int)])
  | 0, i, acc, e, _ => by
    unfold qg
    have : (Src.snap (L.map tpI)).rdr (H ++ [.lst (acc.map D.int)]) i = some none := by
      simp only [Src.rdr]
      rw [List.getElem?_eq_none (by rw [List.length_map]; omega)]
    rw [this, List.drop_eq_nil_of_le (by omega)]
    simp
  | k + 1, i, acc, e, l => by
    have lt : i < L.length := by omega
    rw [List.drop_eq_getElem_cons lt, List.flatten_cons, List.length_append] at l
    unfold qg
    have g : (Src.snap (L.map tpI)).rdr (H ++ [.lst (acc.map D.int)]) i = some (some (tpI L[i])) := by
      simp only [Src.rdr]
      rw [List.getElem?_map, List.getElem?_eq_getElem lt]; rfl
    rw [g]
    have mi : dH (ag 0) (gO [] env (some (tpI L[i])) none) (H ++ [.lst (acc.map D.int)]) = .ok (.snap (L[i].map D.int)) (H ++ [.lst (acc.map D.int)]) := by simp [gO, tpI]
    have fu : (Src.snap (L[i].map D.int)).fuel (H ++ [.lst (acc.map D.int)]) = L[i].length := by show (L[i].map D.int).length = _; rw [List.length_map]
    dsimp only
    rw [mi, cm, fu]
    have c : (fun e => gO [] env (some (tpI L[i])) (some e)) = fun e => [some (tpI L[i]), some e] := rfl
    rw [c, DZ L[i].length 0 acc (by omega) (by omega), cm, List.drop_zero]
    rw [DO k (i + 1) (acc ++ L[i]) (by omega) (by rw [List.length_append]; omega), List.drop_eq_getElem_cons lt, List.flatten_cons, List.append_assoc]
theorem HU {mi : MI} {env : En} {L : List (List Int)} {H : Hh} (e : mi env H = .ok (.snap (L.map tpI)) H) (hl : L.flatten.length <= 1000000) : rS mi [] (dH (ag 0)) (ag 1) env H = .ok (.ref H.length) (H ++ [.lst (L.flatten.map D.int)]) := by
  unfold rS
  have := DO (env := env) (L := L) (H := H) L.length 0 [] (by omega) (by simpa using hl)
  simp only [List.drop_zero, List.nil_append, List.map_nil] at this
  have f : (Src.snap (L.map tpI)).fuel H = L.length := by show (L.map tpI).length = _; rw [List.length_map]
  rw [e, cm, f, this]
  rfl
theorem FN {n : Nat} {xs : List Int} {h : Hh} (o : Ord n xs) (h1 : 1 <= n) (hn : n <= 20) (w : Wf h) : j3 [.tup (xs.map D.int)] h = .ok (.tup ((cn n xs).map D.int)) h := by
  have r1 := ud (h := h) o h1 hn
  have ll := (n6 o).len
  have c2 := HU (mi := fun _ h => .ok (.snap ((ft n xs).map tpI)) h) (env := [some (.tup (xs.map D.int))]) (L := ft n xs) (H := h) rfl (by show (cn n xs).length <= _; omega)
  have e0 : (ft n xs).flatten = cn n xs := rfl
  rw [e0] at c2
  have tu : bW [.ref h.length] (h ++ [.lst ((cn n xs).map D.int)]) = .ok (.tup ((cn n xs).map D.int)) (h ++ [.lst ((cn n xs).map D.int)]) := by simp [bW, j8]
  have ex := cX (h := h) (t := [.lst ((cn n xs).map D.int)]) (d := .tup ((cn n xs).map D.int)) w (by simp [deep])
  generalize (cn n xs).map D.int = LA at *
  generalize (ft n xs).map tpI = RN at *
  simp [j3, bz, r1, c2, tu, ex]
theorem DF (b : List Int) : b.headD 0 = gI b 0 := by cases b <;> rfl
section
variable {n : Nat} {os Z : List Int} {Bs : List (List Int)} (o : Ord n os) (k : Bks n os Bs) (tk : Tk n os Z)
include o k in
theorem Gd {b : List Int} (hb : b ∈ Bs) : b.Nodup := by
  have nd := o.nd
  rw [<- k.fl] at nd
  exact (List.pairwise_flatten.mp nd).1 b hb
include o k in
theorem GV {b : List Int} (hb : b ∈ Bs) {x : Int} (hx : x ∈ b) : 0 <= x /\ x < n := by
  have m : x ∈ os := by rw [<- k.fl]; exact List.mem_flatten.mpr ⟨b, hb, hx⟩
  exact ⟨o.lo x m, o.hi x m⟩
theorem pw_ne {R : List Int -> List Int -> Prop} : ∀ {L : List (List Int)}, L.Pairwise R -> ∀ a ∈ L, ∀ b ∈ L, a ≠ b -> R a b \/ R b a
  | [], _, a, ha, _, _, _ => by simp at ha
  | c :: L, h, a, ha, b, hb, ne => by
    have p := List.pairwise_cons.mp h
    rcases List.mem_cons.mp ha with e1 | ha2
    · rcases List.mem_cons.mp hb with e2 | hb2
      · exact absurd (e1.trans e2.symm) ne
      · rw [e1]; exact .inl (p.1 b hb2)
    · rcases List.mem_cons.mp hb with e2 | hb2
      · rw [e2]; exact .inr (p.1 a ha2)
      · exact pw_ne p.2 a ha2 b hb2 ne
include o k in
theorem G_ {a b : List Int} (ha : a ∈ Bs) (hb : b ∈ Bs) {x : Int} (h1 : x ∈ a) (h2 : x ∈ b) : a = b := by
  have nd := o.nd
  rw [<- k.fl] at nd
  refine Classical.byContradiction fun ne => ?_
  rcases pw_ne (List.pairwise_flatten.mp nd).2 a ha b hb ne with r | r
  · exact r x h1 x h2 rfl
  · exact r x h2 x h1 rfl
include o k in
theorem zC {p : Nat} (hp : p < n) : ∃ b ∈ Bs, ∃ j, j < b.length /\ gI b j = (p : Int) := by
  have m : (p : Int) ∈ os := wN o (by omega) (by omega)
  rw [<- k.fl] at m
  obtain ⟨b, hb, hx⟩ := List.mem_flatten.mp m
  obtain ⟨j, hj, e⟩ := List.getElem_of_mem hx
  exact ⟨b, hb, j, hj, by rw [bD hj]; exact e⟩
theorem tR {b : List Int} {j : Nat} (hj : j < b.length) : cyc b j ∈ b := by
  unfold cyc
  split
  · exact fT (by assumption)
  · rw [DF]; exact fT (by omega)
theorem Dz {b : List Int} {i j : Nat} (nd : b.Nodup) (hi : i < b.length) (hj : j < b.length) (e : cyc b i = cyc b j) : i = j := by
  unfold cyc at e
  rw [DF] at e
  by_cases c1 : i + 1 < b.length <;> by_cases c2 : j + 1 < b.length
  · rw [if_pos c1, if_pos c2] at e
    have := kf nd c1 c2 e; omega
  · rw [if_pos c1, if_neg c2] at e
    have := kf nd c1 (by omega) e; omega
  · rw [if_neg c1, if_pos c2] at e
    have := kf nd (by omega) c2 e; omega
  · omega
include o k tk in
theorem Bo {b : List Int} (hb : b ∈ Bs) {j : Nat} (hj : j < b.length) : gI Z (gI b j).toNat = cyc b j := ((zJ o k).mp tk).2 b hb j hj
include o k tk in
theorem D_ : Ord n Z := by
  refine AE tk.len (fun p hp => ?_) (fun p q hp hq e => ?_)
  · obtain ⟨b, hb, j, hj, ep⟩ := zC o k hp
    have := Bo o k tk hb hj
    rw [ep, Int.toNat_natCast] at this
    rw [this]
    exact GV o k hb (tR hj)
  · obtain ⟨b, hb, j, hj, ep⟩ := zC o k hp
    obtain ⟨c, hc, i, hi, eq⟩ := zC o k hq
    have v1 := Bo o k tk hb hj
    have v2 := Bo o k tk hc hi
    rw [ep, Int.toNat_natCast] at v1
    rw [eq, Int.toNat_natCast] at v2
    have ev : cyc b j = cyc c i := by rw [<- v1, <- v2, e]
    have bc : b = c := G_ o k hb hc (tR hj) (by rw [ev]; exact tR hi)
    subst bc
    have ij := Dz (Gd o k hb) hj hi ev
    subst ij
    rw [ep] at eq
    omega
include o k tk in
include o k tk in
include o k tk in
end
noncomputable def gh (n : Nat) (xs : List Int) : List Int := ((List.range n).filter fun (i : Nat) => decide (gI xs i < (i : Int))).map fun (i : Nat) => (i : Int)
theorem qQ {n : Nat} {os xs : List Int} (o : Ord n os) (t : Tk n os xs) {i : Nat} (hi : i < n) : gI xs (gI os i).toNat < gI os i ↔ (i + 1 < n /\ gI os (i + 1) < gI os i) := by
  rw [t.at' i hi]
  have p1 := p6 os i i (Nat.le_refl _)
  have p2 := zH o i hi
  unfold nxI gC
  by_cases c : i + 1 < n
  · rw [if_pos c]
    by_cases c2 : pmx os i < gI os (i + 1)
    · rw [if_pos c2]; constructor
      · intro h; omega
      · intro h; omega
    · rw [if_neg c2]; constructor
      · intro h; exact ⟨c, h⟩
      · intro h; exact h.2
  · rw [if_neg c, if_pos (by omega)]; constructor
    · intro h; omega
    · intro h; omega
theorem uI {n : Nat} {os xs : List Int} (o : Ord n os) (t : Tk n os xs) : (kj os).length = (gh n xs).length := by
  have F : ((kh os).map (gI os)).length = (kj os).length := by unfold kj; simp
  have inj : ∀ i j, i < n -> j < n -> gI os i = gI os j -> i = j := fun i j hi hj e => kf o.nd (by rw [o.len]; exact hi) (by rw [o.len]; exact hj) e
  have nd1 : ((kh os).map (gI os)).Nodup := by
    unfold kh
    refine List.pairwise_map.mpr ?_
    have : ((List.range (os.length - 1)).filter fun i => decide (gI os (i + 1) < gI os i)).Pairwise (· < ·) := List.Pairwise.filter _ List.pairwise_lt_range
    refine List.Pairwise.imp_of_mem (fun {a b} ha hb lt e => ?_) this
    have ha := List.mem_range.mp (List.mem_filter.mp ha).1
    have hb := List.mem_range.mp (List.mem_filter.mp hb).1
    rw [o.len] at ha hb
    have := inj a b (by omega) (by omega) e
    omega
  have nd2 : (gh n xs).Nodup := by
    unfold gh
    refine List.pairwise_map.mpr ?_
    have : ((List.range n).filter fun (i : Nat) => decide (gI xs i < (i : Int))).Pairwise (· < ·) := List.Pairwise.filter _ List.pairwise_lt_range
    exact this.imp fun h e => by omega
  have m : ∀ x, x ∈ (kh os).map (gI os) ↔ x ∈ gh n xs := fun x => by
    unfold kh gh
    constructor
    · intro hx
      obtain ⟨i, hi, rfl⟩ := List.mem_map.mp hx
      obtain ⟨a, b⟩ := List.mem_filter.mp hi
      have a := List.mem_range.mp a
      rw [o.len] at a
      have r := fF o (show i < n by omega)
      have d := (qQ o t (show i < n by omega)).mpr ⟨by omega, of_decide_eq_true b⟩
      refine List.mem_map.mpr ⟨(gI os i).toNat, List.mem_filter.mpr ⟨List.mem_range.mpr (by omega), decide_eq_true (by omega)⟩, by omega⟩
    · intro hx
      obtain ⟨p, hp, rfl⟩ := List.mem_map.mp hx
      obtain ⟨a, b⟩ := List.mem_filter.mp hp
      have a := List.mem_range.mp a
      have b := of_decide_eq_true b
      obtain ⟨i, hi, e⟩ := wc o (j := (p : Int)) (by omega) (by omega)
      have ep : (gI os i).toNat = p := by omega
      have d := (qQ o t hi).mp (by rw [ep, e]; exact b)
      refine List.mem_map.mpr ⟨i, List.mem_filter.mpr ⟨List.mem_range.mpr (by rw [o.len]; omega), decide_eq_true d.2⟩, e⟩
  rw [<- F]
  exact Nat.le_antisymm (len_sub _ _ nd1 fun x hx => (m x).mp hx) (len_sub _ _ nd2 fun x hx => (m x).mpr hx)
noncomputable def bkS (os : List Int) : Nat -> List (List Int) × List Int
  | 0 => ([], [gI os 0])
  | i + 1 => if pmx os i < gI os (i + 1) then ((bkS os i).1 ++ [(bkS os i).2], [gI os (i + 1)]) else ((bkS os i).1, (bkS os i).2 ++ [gI os (i + 1)])
structure BkP (os : List Int) (i : Nat) (I : List (List Int)) (l : List Int) : Prop where
  fl : I.flatten ++ l = os.take (i + 1)
  ne : ∀ b ∈ I, b ≠ []
  nl : l ≠ []
  hd : ∀ b ∈ I, ∀ x ∈ b, x <= b.headD 0
  hl : ∀ x ∈ l, x <= l.headD 0
  lh : l.headD 0 = pmx os i
  up : (I.map fun b => b.headD 0).Pairwise (· < ·)
  lt : ∀ b ∈ I, b.headD 0 < l.headD 0
theorem vo {os : List Int} {i : Nat} (h : i < os.length) : os.take (i + 1) = os.take i ++ [gI os i] := by
  rw [List.take_succ_eq_append_getElem h, bD h]
theorem zf {os : List Int} : ∀ i, i < os.length -> BkP os i (bkS os i).1 (bkS os i).2
  | 0, h => by
    refine ⟨?_, by simp [bkS], by simp [bkS], by simp [bkS], by simp [bkS], rfl, by simp [bkS], by simp [bkS]⟩
    rw [vo h]; simp [bkS]
  | i + 1, h => by
    have k := zf (os := os) i (by omega)
    unfold bkS
    generalize (bkS os i).1 = I at *
    generalize (bkS os i).2 = l at *
    by_cases c : pmx os i < gI os (i + 1)
    · rw [if_pos c]
      refine ⟨?_, fun b hb => ?_, by simp, fun b hb => ?_, by simp, ?_, ?_, fun b hb => ?_⟩
      · rw [vo h, <- k.fl]; simp
      · rcases List.mem_append.mp hb with z | z
        · exact k.ne b z
        · rw [List.mem_singleton] at z; subst z; exact k.nl
      · rcases List.mem_append.mp hb with z | z
        · exact k.hd b z
        · rw [List.mem_singleton] at z; subst z; exact k.hl
      · show gI os (i + 1) = pmx os (i + 1)
        rw [pmx]; omega
      · rw [List.map_append, List.pairwise_append]
        refine ⟨k.up, by simp, fun a ha b hb => ?_⟩
        obtain ⟨d, hd, rfl⟩ := List.mem_map.mp ha
        simp only [List.map_cons, List.map_nil, List.mem_singleton] at hb
        subst hb
        exact k.lt d hd
      · have lh := k.lh
        show b.headD 0 < gI os (i + 1)
        rcases List.mem_append.mp hb with z | z
        · have := k.lt b z; omega
        · rw [List.mem_singleton] at z; subst z; omega
    · rw [if_neg c]
      have nl := k.nl
      have hh : (l ++ [gI os (i + 1)]).headD 0 = l.headD 0 := by
        cases l with
        | nil => exact absurd rfl nl
        | cons a l => rfl
      have lh := k.lh
      refine ⟨?_, k.ne, by simp, k.hd, fun x hx => ?_, ?_, k.up, fun b hb => by rw [hh]; exact k.lt b hb⟩
      · rw [vo h, <- k.fl]; simp
      · rw [hh]
        rcases List.mem_append.mp hx with z | z
        · exact k.hl x z
        · rw [List.mem_singleton] at z; subst z; omega
      · show (l ++ [gI os (i + 1)]).headD 0 = pmx os (i + 1)
        rw [hh, pmx]; omega
noncomputable def bkL (os : List Int) : List (List Int) := (bkS os (os.length - 1)).1 ++ [(bkS os (os.length - 1)).2]
theorem E7 {n : Nat} {os : List Int} (o : Ord n os) (h1 : 1 <= n) : Bks n os (bkL os) := by
  have hl := o.len
  have k := zf (os := os) (os.length - 1) (by omega)
  unfold bkL
  generalize (bkS os (os.length - 1)).1 = I at *
  generalize (bkS os (os.length - 1)).2 = l at *
  refine ⟨?_, fun b hb => ?_, fun b hb => ?_, ?_⟩
  · have := k.fl
    rw [show os.length - 1 + 1 = os.length by omega, List.take_length] at this
    rw [<- this]; simp
  · rcases List.mem_append.mp hb with z | z
    · exact k.ne b z
    · rw [List.mem_singleton] at z; subst z; exact k.nl
  · rcases List.mem_append.mp hb with z | z
    · exact k.hd b z
    · rw [List.mem_singleton] at z; subst z; exact k.hl
  · rw [List.map_append, List.pairwise_append]
    refine ⟨k.up, by simp, fun a ha b hb => ?_⟩
    obtain ⟨d, hd, rfl⟩ := List.mem_map.mp ha
    simp only [List.map_cons, List.map_nil, List.mem_singleton] at hb
    subst hb
    exact k.lt d hd
structure Bck (n : Nat) (xs P : List Int) : Prop where
  len : P.length = n
  at' : ∀ i, i < n -> gI P (gI xs i).toNat = i
theorem Bck.inv {n : Nat} {xs P : List Int} (o : Ord n xs) (p : Bck n xs P) {j : Nat} (hj : j < n) : ∃ i : Nat, i < n /\ gI xs i = j /\ gI P j = i := by
  obtain ⟨i, hi, e⟩ := wc o (j := (j : Int)) (by omega) (by omega)
  have a := p.at' i hi
  rw [e, Int.toNat_natCast] at a
  exact ⟨i, hi, e, a⟩
theorem Bck.ord {n : Nat} {xs P : List Int} (o : Ord n xs) (p : Bck n xs P) : Ord n P := by
  refine AE p.len (fun j hj => ?_) (fun j k hj hk e => ?_)
  · obtain ⟨i, hi, _, e⟩ := p.inv o hj
    rw [e]; omega
  · obtain ⟨i, hi, a, b⟩ := p.inv o hj
    obtain ⟨i', hi', a', b'⟩ := p.inv o hk
    have : i = i' := by omega
    subst this
    omega
theorem Bck.twice {n : Nat} {xs P : List Int} (o : Ord n xs) (p : Bck n xs P) : Bck n P xs := ⟨o.len, fun j hj => by
  obtain ⟨i, hi, a, b⟩ := p.inv o hj
  rw [b, Int.toNat_natCast, a]⟩
theorem xM {n : Nat} {xs : List Int} (o : Ord n xs) (d0 : Option D) : ∃ (P : List Int) (e2 e3 : Option D), Bck n xs P /\ ef (gT2 2 3) (eO cF (ag 1) (ag 3) (ag 2)) (dN (xs.map D.int)) [d0, some (.ref 0), none, none] [.lst ((List.replicate n (0 : Int)).map D.int)] = .ok (.nx [d0, some (.ref 0), e2, e3]) [.lst (P.map D.int)] := by
  rw [l_, o.len]
  obtain ⟨q, q2⟩ := wQ (σ := List Int × Option D × Option D) (tg := gT2 2 3) (body := eO cF (ag 1) (ag 3) (ag 2)) (fun (i : Nat) => D.tup [.int i, .int (gI xs i)]) n (fun s => [d0, some (.ref 0), s.2.1, s.2.2]) (fun s => [.lst (s.1.map D.int)]) (fun s i => (s.1.set (gI xs i).toNat (i : Int), some (.int i), some (.int (gI xs i))))
    (fun i s => s.1.length = n /\ ∀ k, k < i -> gI s.1 (gI xs k).toNat = k) (List.replicate n (0 : Int), none, none) ⟨by simp, by omega⟩ (fun i s hi ⟨l, hk⟩ => by
      obtain ⟨r0, r1⟩ := fF o hi
      refine ⟨⟨by simp [l], fun k hk' => ?_⟩, .inl ?_⟩
      · obtain ⟨s0, s1⟩ := fF o (show k < n by omega)
        by_cases e : k = i
        · subst e
          rw [bD (by simp; omega)]; simp
        · have ne : (gI xs i).toNat ≠ (gI xs k).toNat := fun z => e (kf o.nd (by rw [o.len]; omega) (by rw [o.len]; omega) (by omega))
          rw [bD (by simp; omega)]
          rw [List.getElem_set_ne ne, <- bD (by omega)]
          exact hk k (by omega)
      · have n2 : ixN (s.1.map D.int).length (gI xs i) = some (gI xs i).toNat := by rw [List.length_map]; exact k7 (by omega) (by omega)
        have st : cF (.ref 0) (.int (gI xs i)) (.int i) [.lst (s.1.map D.int)] = .ok () [.lst ((s.1.set (gI xs i).toNat (i : Int)).map D.int)] := by
          rw [ip rfl n2, List.map_set]; rfl
        simp [st])
  exact ⟨_, _, _, ⟨q2.1, q2.2⟩, q⟩
theorem Ef {n : Nat} {xs : List Int} (o : Ord n xs) (h1 : 1 <= n) (h2 : n <= 20) : ∃ P, Bck n xs P /\ ∀ h : Hh, j7 [.tup (xs.map D.int)] h = .ok (.tup (P.map D.int)) h := by
  obtain ⟨P, e2, e3, p, q⟩ := xM o (some (.tup (xs.map D.int)))
  refine ⟨P, p, fun h => ?_⟩
  have rp : (List.replicate n [D.int 0]).flatten = (List.replicate n (0 : Int)).map D.int := by
    have : ∀ m : Nat, (List.replicate m [D.int 0]).flatten = List.replicate m (D.int 0) := fun m => by
      induction m with
      | zero => rfl
      | succ m ih => rw [List.replicate_succ, List.flatten_cons, ih, List.replicate_succ]; rfl
    rw [this, List.map_replicate]
  have z : n <= 1000000 := by omega
  have ex := cX (h := []) (t := [.lst (P.map D.int)]) (d := .tup (P.map D.int)) Wf.nil (by simp)
  simp only [List.nil_append] at ex
  have tl : bW [.ref 0] [.lst (P.map D.int)] = .ok (.tup (P.map D.int)) [.lst (P.map D.int)] := A9 rfl
  have lo1 : bU 0 [.tup (xs.map D.int)] = true := by simp [bU, dD]
  have lo2 : dD 0 (.tup (P.map D.int)) = true := by simp [dD]
  have nd := fH o h1 h2 Wf.nil
  generalize (List.replicate n (0 : Int)).map D.int = RR at *
  simp [j7, gT, lo1, bz, nd, o.len, rp, z, q, tl, ex, lo2]
noncomputable def jP (n : Nat) (xs : List Int) : List Int := ((List.range n).filter fun (i : Nat) => decide ((i : Int) < gI xs i)).map fun (i : Nat) => (i : Int)
theorem qU {xs : List Int} {f : Nat -> Bool} {tt : MT} {h : Hh} (ht : ∀ i, i < xs.length -> tt [some (.int (i : Nat)), some (.int (gI xs i))] h = .ok (f i) h) : cO (unp tt) (unp (ag 0)) (fun x => [some x]) (dN (xs.map D.int)) h = .ok ((((List.range xs.length).filter f).map fun (i : Nat) => (i : Int)).map D.int) h := by
  rw [l_, comp_map (fun (i : Nat) => D.tup [.int i, .int (gI xs i)]) f (fun (i : Nat) => D.int i) _ (fun i hi => ⟨by
    have := ht i (List.mem_range.mp hi)
    simpa using this, fun _ => by simp⟩), List.map_map]
  rfl
theorem xj {n : Nat} {xs : List Int} {h : Hh} (o : Ord n xs) (h1 : 1 <= n) (hn : n <= 20) (w : Wf h) : cH [.tup (xs.map D.int)] h = .ok (.tup ((jP n xs).map D.int)) h := by
  have oe := fH (h := h) o h1 hn w
  have hl := o.len
  have q := qU (xs := xs) (f := fun (i : Nat) => decide ((i : Int) < gI xs i)) (tt := aI asB (ao dGt (ag 1) (ag 0))) (h := h) (fun i hi => by simp)
  have z : xs.length <= 1000000 := by omega
  rw [hl] at q
  unfold jP
  generalize (((List.range n).filter fun (i : Nat) => decide ((i : Int) < gI xs i)).map fun (i : Nat) => (i : Int)).map D.int = W at *
  simp [cH, bz, oe, z, q]
theorem BJ {n : Nat} {xs : List Int} {h : Hh} (o : Ord n xs) (h1 : 1 <= n) (hn : n <= 20) (w : Wf h) : bN [.tup (xs.map D.int)] h = .ok (.tup ((gh n xs).map D.int)) h := by
  have oe := fH (h := h) o h1 hn w
  have hl := o.len
  have q := qU (xs := xs) (f := fun (i : Nat) => decide (gI xs i < (i : Int))) (tt := aI asB (ao dLt (ag 1) (ag 0))) (h := h) (fun i hi => by simp)
  have z : xs.length <= 1000000 := by omega
  rw [hl] at q
  unfold gh
  generalize (((List.range n).filter fun (i : Nat) => decide (gI xs i < (i : Int))).map fun (i : Nat) => (i : Int)).map D.int = W at *
  simp [bN, bz, oe, z, q]
theorem zT {n : Nat} {os : List Int} {A C : List (List Int)} {b : List Int} {j : Nat} (k : Bks n os (A ++ b :: C)) (hj : j < b.length) : pmx os (A.flatten.length + j) = b.headD 0 := by
  have fl : os = A.flatten ++ (b ++ C.flatten) := by rw [<- k.fl, List.flatten_append, List.flatten_cons]
  have bm : b ∈ A ++ b :: C := by simp
  have at0 : ∀ t, t < b.length -> gI os (A.flatten.length + t) = gI b t := fun t ht => by
    rw [fl, B3 (by simp; omega), zS ht]
  have h0 : gI b 0 = b.headD 0 := by cases b <;> rfl
  have ups := k.up
  rw [List.map_append, List.map_cons, List.pairwise_append] at ups
  have lessA : ∀ x ∈ A.flatten, x < b.headD 0 := fun x hx => by
    obtain ⟨a, ha, hx⟩ := List.mem_flatten.mp hx
    have u1 := k.hd a (List.mem_append_left _ ha) x hx
    have u2 := ups.2.2 (a.headD 0) (List.mem_map.mpr ⟨a, ha, rfl⟩) (b.headD 0) List.mem_cons_self
    omega
  refine Int.le_antisymm ?_ ?_
  · obtain ⟨t, ht, e⟩ := nP os (A.flatten.length + j)
    rw [<- e]
    by_cases c : t < A.flatten.length
    · rw [fl, zS c]
      have := lessA _ (fT (ns := A.flatten) (j := t) c)
      omega
    · have := at0 (t - A.flatten.length) (by omega)
      rw [show A.flatten.length + (t - A.flatten.length) = t by omega] at this
      rw [this]
      exact k.hd b bm _ (fT (by omega))
  · have := p6 os (A.flatten.length + j) A.flatten.length (by omega)
    have a0 := at0 0 (by omega)
    rw [Nat.add_zero] at a0
    rw [a0, h0] at this
    exact this
theorem zV {n : Nat} {xs : List Int} {p : Nat -> Bool} (o : Ord n xs) : (((List.range n).filter p).map (gI xs)).Nodup := by
  have hl := o.len
  rw [List.Nodup, List.pairwise_map]
  refine List.Pairwise.imp_of_mem (R := (· < ·)) (fun {a b} ha hb h e => ?_) ((List.pairwise_lt_range (n := n)).filter p)
  have a1 := List.mem_range.mp (List.mem_filter.mp ha).1
  have b1 := List.mem_range.mp (List.mem_filter.mp hb).1
  have := kf o.nd (i := a) (j := b) (by omega) (by omega) e
  omega
theorem CA {n : Nat} {os : List Int} {Bs : List (List Int)} (o : Ord n os) (k : Bks n os Bs) : ((List.range n).filter fun i => decide (gI os i = pmx os i)).length = Bs.length := by
  have e1 : (((List.range n).filter fun i => decide (gI os i = pmx os i)).map (gI os)).length = ((List.range n).filter fun i => decide (gI os i = pmx os i)).length := by rw [List.length_map]
  have e2 : (Bs.map fun b => b.headD 0).length = Bs.length := by rw [List.length_map]
  rw [<- e1, <- e2]
  refine Nat.le_antisymm (len_sub _ _ (zV o) fun x hx => ?_) (len_sub _ _ ((k.up).imp fun h => by omega) fun x hx => ?_)
  · obtain ⟨i, hi, rfl⟩ := List.mem_map.mp hx
    obtain ⟨hr, hp⟩ := List.mem_filter.mp hi
    have hr := List.mem_range.mp hr
    have hp : gI os i = pmx os i := by simpa using hp
    obtain ⟨A, b, C, j, e, hj, rfl⟩ := vF Bs i (by rw [k.fl, o.len]; exact hr)
    subst e
    rw [hp, zT k hj]
    exact List.mem_map.mpr ⟨b, by simp, rfl⟩
  · obtain ⟨b, hb, rfl⟩ := List.mem_map.mp hx
    obtain ⟨A, C, rfl⟩ := List.append_of_mem hb
    have bl : 0 < b.length := List.length_pos_iff.mpr (k.ne b hb)
    have l : A.flatten.length + 0 < n := by
      rw [<- o.len, <- k.fl, List.flatten_append, List.flatten_cons]; simp; omega
    have v := (wa o k bl).1
    have p := zT k bl
    have h0 : gI b 0 = b.headD 0 := by cases b <;> rfl
    refine List.mem_map.mpr ⟨A.flatten.length + 0, List.mem_filter.mpr ⟨List.mem_range.mpr l, ?_⟩, by rw [v, h0]⟩
    rw [v, p, h0]; simp
theorem Cu {n : Nat} {p : Nat -> Bool} : (((List.range n).filter p).map fun (i : Nat) => (i : Int)).Nodup := by
  rw [List.Nodup, List.pairwise_map]
  exact ((List.pairwise_lt_range (n := n)).filter p).imp fun h => by omega
theorem vP {n : Nat} {xs P : List Int} (o : Ord n xs) (b : Bck n xs P) : (jP n P).length = (gh n xs).length := by
  have e1 : (((List.range n).filter fun (i : Nat) => decide (gI xs i < (i : Int))).map (gI xs)).length = (gh n xs).length := by unfold gh; rw [List.length_map, List.length_map]
  rw [<- e1]
  refine Nat.le_antisymm (len_sub _ _ Cu fun x hx => ?_) (len_sub _ _ (zV o) fun x hx => ?_)
  · obtain ⟨j, hj, rfl⟩ := List.mem_map.mp hx
    obtain ⟨hr, hp⟩ := List.mem_filter.mp hj
    have hr := List.mem_range.mp hr
    have hp : (j : Int) < gI P j := by simpa using hp
    obtain ⟨i, hi, e⟩ := wc o (j := (j : Int)) (by omega) (by omega)
    have := b.at' i hi
    rw [e, Int.toNat_natCast] at this
    refine List.mem_map.mpr ⟨i, List.mem_filter.mpr ⟨List.mem_range.mpr hi, ?_⟩, e⟩
    rw [e]; simp; omega
  · obtain ⟨i, hi, rfl⟩ := List.mem_map.mp hx
    obtain ⟨hr, hp⟩ := List.mem_filter.mp hi
    have hr := List.mem_range.mp hr
    have hp : gI xs i < (i : Int) := by simpa using hp
    have r := fF o hr
    have := b.at' i hr
    refine List.mem_map.mpr ⟨(gI xs i).toNat, List.mem_filter.mpr ⟨List.mem_range.mpr (by omega), ?_⟩, by omega⟩
    rw [this]; simp; omega
noncomputable def lT (n : Nat) (xs : List Int) : List Int := ((List.range n).filter fun (i : Nat) => decide (gI xs i = (i : Int))).map fun (i : Nat) => (i : Int)
theorem xG {n : Nat} {xs : List Int} : sortI (jP n xs ++ gh n xs ++ lT n xs) = gW 0 n := by
  refine jw ((sortI_perm _).trans ?_) (iH _) ?_
  · have r : gW 0 n = (List.range n).map fun (i : Nat) => (i : Int) := by simp [gW]
    rw [r]
    unfold jP gh lT
    rw [<- List.map_append, <- List.map_append]
    refine List.Perm.map _ ?_
    have p1 := List.filter_append_perm (fun (i : Nat) => decide ((i : Int) < gI xs i)) (List.range n)
    have p2 := List.filter_append_perm (fun (i : Nat) => decide (gI xs i < (i : Int))) ((List.range n).filter fun (i : Nat) => !decide ((i : Int) < gI xs i))
    rw [List.filter_filter, List.filter_filter] at p2
    have e1 : ((List.range n).filter fun (i : Nat) => decide (gI xs i < (i : Int)) && !decide ((i : Int) < gI xs i)) = (List.range n).filter fun (i : Nat) => decide (gI xs i < (i : Int)) := by
      refine List.filter_congr fun i _ => ?_
      rw [Bool.eq_iff_iff]; simp; omega
    have e2 : ((List.range n).filter fun (i : Nat) => !decide (gI xs i < (i : Int)) && !decide ((i : Int) < gI xs i)) = (List.range n).filter fun (i : Nat) => decide (gI xs i = (i : Int)) := by
      refine List.filter_congr fun i _ => ?_
      rw [Bool.eq_iff_iff]; simp; omega
    rw [e1, e2] at p2
    rw [List.append_assoc]
    exact (List.Perm.append_left _ p2).trans p1
  · unfold gW
    rw [List.pairwise_map]
    exact (List.pairwise_lt_range (n := n)).imp fun {a b} h => by omega
noncomputable def g2 (L : List (List Int)) (r k : Nat) : Int := gI (L.getD r []) k
noncomputable def jE (n : Nat) (f : Nat -> Nat -> Int) : List (List Int) := (List.range (n + 1)).map fun r => (List.range (n + 1)).map (f r)
noncomputable def bnI (s : Nat) (T : Nat -> Nat -> Int) (r k : Nat) : Int := (if 0 < r then T (r - 1) k else 0) + (k : Int) * T r k + (if 0 < k then ((s : Int) - k) * T r (k - 1) else 0)
noncomputable def BT (n : Nat) : Nat -> List (List Int)
  | 0 => jE n fun r k => if r = 0 /\ k = 0 then 1 else 0
  | s + 1 => jE n (bnI (s + 1) (g2 (BT n s)))
theorem ly {n r : Nat} {f : Nat -> Nat -> Int} (hr : r <= n) : (jE n f).getD r [] = (List.range (n + 1)).map (f r) := by
  unfold jE
  rw [List.getD_eq_getElem?_getD, List.getElem?_map, List.getElem?_range (by omega)]; rfl
theorem hG {n r k : Nat} {f : Nat -> Nat -> Int} : g2 (jE n f) r k = if r <= n /\ k <= n then f r k else 0 := by
  unfold g2
  by_cases hr : r <= n
  · rw [ly hr]
    by_cases hk : k <= n
    · rw [if_pos ⟨hr, hk⟩, bD (by simp; omega)]; simp
    · rw [if_neg (fun z => hk z.2)]
      unfold gI
      rw [List.getD_eq_getElem?_getD, List.getElem?_eq_none (by simp; omega)]; rfl
  · rw [if_neg (fun z => hr z.1)]
    unfold jE
    rw [List.getD_eq_getElem?_getD, List.getElem?_eq_none (by simp; omega)]; rfl
theorem GS {s r k B : Nat} {T : Nat -> Nat -> Int} (hT : ∀ r k, (T r k).natAbs <= B) (hk : k <= 12) (hs : s <= 12) : (bnI s T r k).natAbs <= 40 * B := by
  have a := hT (r - 1) k
  have m1 : ((k : Int) * T r k).natAbs <= 12 * B := by
    rw [Int.natAbs_mul]; exact Nat.mul_le_mul (by omega) (hT r k)
  have m2 : (((s : Int) - k) * T r (k - 1)).natAbs <= 12 * B := by
    rw [Int.natAbs_mul]; exact Nat.mul_le_mul (by omega) (hT r (k - 1))
  unfold bnI
  generalize (k : Int) * T r k = u at *
  generalize ((s : Int) - k) * T r (k - 1) = v at *
  generalize T (r - 1) k = t at *
  split <;> split <;> omega
theorem DQ {n : Nat} (hn : n <= 12) : ∀ s, s <= n -> ∀ r k, (g2 (BT n s) r k).natAbs <= 40 ^ s
  | 0, _, r, k => by
    unfold BT
    rw [hG]
    by_cases c : r <= n /\ k <= n
    · rw [if_pos c]; split <;> decide
    · rw [if_neg c]; decide
  | s + 1, hs, r, k => by
    unfold BT
    rw [hG]
    by_cases c : r <= n /\ k <= n
    · rw [if_pos c]
      have := GS (s := s + 1) (r := r) (k := k) (DQ hn s (by omega)) (by omega) (by omega)
      rw [Nat.pow_succ]
      omega
    · rw [if_neg c]; exact Nat.zero_le _
theorem Fm {n s r k : Nat} (hn : n <= 12) (hs : s <= n) : sml (g2 (BT n s) r k) = true := by
  refine kD (Nat.le_trans (DQ hn s hs r k) (Nat.le_trans (Nat.pow_le_pow_right (by decide) (show s <= 12 by omega)) (by decide +kernel)))
noncomputable def eI (b : List Int) : D := .frl (b.map D.int)
noncomputable def eR (L : List (List Int)) : D := .frl (L.map eI)
theorem wy (n s : Nat) : ∃ f, BT n s = jE n f := by cases s <;> exact ⟨_, rfl⟩
theorem sX {n s r : Nat} {h : Hh} (hr : r <= n) : ixK ((BT n s).map eI) (r : Int) h = .ok (eI ((BT n s).getD r [])) h := by
  obtain ⟨f, e⟩ := wy n s
  refine jI rfl ?_
  rw [e, ly hr]
  unfold jE
  rw [List.map_map, List.getElem?_map, List.getElem?_range (by omega)]; rfl
theorem uL {n s r k : Nat} {h : Hh} (hr : r <= n) (hk : k <= n) : ixK (((BT n s).getD r []).map D.int) (k : Int) h = .ok (.int (g2 (BT n s) r k)) h := by
  obtain ⟨f, e⟩ := wy n s
  refine dE rfl ?_
  rw [e, ly hr]; simp; omega
theorem CK {n s r k : Nat} {h : Hh} (hn : n <= 12) (hs : s + 1 <= n) (hr : r <= n) (hk : k <= n) : bY [.int (1 + (s : Int)), eR (BT n s), .int r, .int k] h = .ok (.int (bnI (s + 1) (g2 (BT n s)) r k)) h := by
  have sm := fun r k => Fm (n := n) (s := s) (r := r) (k := k) hn (by omega)
  have i1 := sX (n := n) (s := s) (r := r) (h := h) hr
  have i2 := uL (n := n) (s := s) (r := r) (k := k) (h := h) hr hk
  have sk : sml (k : Int) = true := xv (by omega) (by omega)
  have ssk : sml (1 + (s : Int) - k) = true := kD (Nat.le_trans (show _ <= 100 by omega) (by decide +kernel))
  have e1 : (((s + 1 : Nat) : Int) - k) = 1 + (s : Int) - k := by omega
  unfold bnI
  rw [e1]
  by_cases cr : 0 < r
  · have j1 := sX (n := n) (s := s) (r := r - 1) (h := h) (by omega)
    have j2 := uL (n := n) (s := s) (r := r - 1) (k := k) (h := h) (by omega) hk
    rw [show ((r - 1 : Nat) : Int) = (r : Int) - 1 by omega] at j1
    have cr' : 0 < (r : Int) := by omega
    by_cases ck : 0 < k
    · have l2 := uL (n := n) (s := s) (r := r) (k := k - 1) (h := h) hr (by omega)
      rw [show ((k - 1 : Nat) : Int) = (k : Int) - 1 by omega] at l2
      have ck' : 0 < (k : Int) := by omega
      rw [if_pos cr, if_pos ck]
      generalize BT n s = L at *
      simp [-List.getD_eq_getElem?_getD, bY, bz, eR, cr', ck', i1, eI, i2, j1, j2, l2, sk, ssk, sm, cr, ck]
    · have ck' : ¬ 0 < (k : Int) := by omega
      rw [if_pos cr, if_neg ck]
      generalize BT n s = L at *
      simp [-List.getD_eq_getElem?_getD, bY, bz, eR, cr', ck', i1, eI, i2, j1, j2, sk, ssk, sm, cr, ck]
  · have cr' : ¬ 0 < (r : Int) := by omega
    by_cases ck : 0 < k
    · have l2 := uL (n := n) (s := s) (r := r) (k := k - 1) (h := h) hr (by omega)
      rw [show ((k - 1 : Nat) : Int) = (k : Int) - 1 by omega] at l2
      have ck' : 0 < (k : Int) := by omega
      rw [if_neg cr, if_pos ck]
      generalize BT n s = L at *
      simp [-List.getD_eq_getElem?_getD, bY, bz, eR, cr', ck', i1, eI, i2, l2, sk, ssk, sm, cr, ck]
    · have ck' : ¬ 0 < (k : Int) := by omega
      rw [if_neg cr, if_neg ck]
      generalize BT n s = L at *
      simp [-List.getD_eq_getElem?_getD, bY, bz, eR, cr', ck', i1, eI, i2, sk, ssk, sm, cr, ck]
noncomputable def BRI : ME := (bP aC (dH (ag 3)) [1, 2, 0] tt1 (ah bY (aa (ag 1) (aa (ag 2) (aa (ag 3) (aa (ag 0) ak))))))
noncomputable def BRB : MS := (bC 2 (bP aC (dH (ag 1)) [3, 2, 1] tt1 BRI))
theorem EH {n s r : Nat} {h : Hh} (hn : n <= 12) (hs : s + 1 <= n) (hr : r <= n) : BRI [some (.int r), some (.int (1 + (s : Int))), some (eR (BT n s)), some (.frl (bb 0 (n + 1)))] h = .ok (eI ((List.range (n + 1)).map (bnI (s + 1) (g2 (BT n s)) r))) h := by
  have q : cO tt1 (ah bY (aa (ag 1) (aa (ag 2) (aa (ag 3) (aa (ag 0) ak))))) (fun x => [some x, some (.int (1 + (s : Int))), some (eR (BT n s)), some (.int r)]) (bb 0 (n + 1)) h = .ok ((List.range (n + 1)).map fun k => D.int (bnI (s + 1) (g2 (BT n s)) r k)) h :=
    eU _ (fun k hk => by
      have := CK (n := n) (s := s) (r := r) (k := k) (h := h) hn hs hr (by omega)
      simp [this])
  have z : n + 1 <= 1000000 := by omega
  unfold eI
  rw [List.map_map]
  generalize eR (BT n s) = W at *
  simp [BRI, z, q]
theorem D3 {n s : Nat} {h : Hh} {y : D} (hn : n <= 12) (hs : s + 1 <= n) : BRB [some (.int n), some (.frl (bb 0 (n + 1))), some (eR (BT n s)), some (.int (1 + (s : Int)))] h = .ok (.nx [some (.int n), some (.frl (bb 0 (n + 1))), some (eR (BT n (s + 1))), some (.int (1 + (s : Int)))]) h := by
  have q : cO tt1 BRI (fun x => [some x, some (.int (1 + (s : Int))), some (eR (BT n s)), some (.frl (bb 0 (n + 1)))]) (bb 0 (n + 1)) h = .ok ((List.range (n + 1)).map fun r => eI ((List.range (n + 1)).map (bnI (s + 1) (g2 (BT n s)) r))) h :=
    eU _ (fun r hr => EH hn hs (by omega))
  have z : n + 1 <= 1000000 := by omega
  have e : eR (BT n (s + 1)) = .frl ((List.range (n + 1)).map fun r => eI ((List.range (n + 1)).map (bnI (s + 1) (g2 (BT n s)) r))) := by
    show eR (jE n _) = _
    unfold eR jE
    rw [List.map_map]; rfl
  rw [e]
  generalize eR (BT n s) = W at *
  simp [BRB, z, q]
noncomputable def BR0 : ME := (bP aC (dH (ag 1)) [0] tt1 (cIf (nY (aI asB (ao dEq (ag 1) (cC (.int 0)))) (aI asB (ao dEq (ag 0) (cC (.int 0))))) (cC (.int 1)) (cC (.int 0))))
theorem ET {n r : Nat} {h : Hh} (hn : n <= 12) : BR0 [some (.int r), some (.frl (bb 0 (n + 1)))] h = .ok (eI ((List.range (n + 1)).map fun k => if r = 0 /\ k = 0 then 1 else 0)) h := by
  have q : cO tt1 (cIf (nY (aI asB (ao dEq (ag 1) (cC (.int 0)))) (aI asB (ao dEq (ag 0) (cC (.int 0))))) (cC (.int 1)) (cC (.int 0))) (fun x => [some x, some (.int r)]) (bb 0 (n + 1)) h = .ok ((List.range (n + 1)).map fun k => D.int (if r = 0 /\ k = 0 then 1 else 0)) h :=
    eU _ (fun k hk => by
      by_cases a : r = 0 <;> by_cases b : k = 0
      · simp [a, b]
      · have b' : ¬ (k : Int) = 0 := by omega
        simp [a, b, b']
      · have a' : ¬ (r : Int) = 0 := by omega
        simp [a, b, a']
      · have a' : ¬ (r : Int) = 0 := by omega
        simp [a, b, a'])
  have z : n + 1 <= 1000000 := by omega
  unfold eI
  rw [List.map_map]
  simp [BR0, z, q]
theorem wR {n : Nat} {h : Hh} (hn : n <= 12) : dB [.int n] h = .ok (eR (BT n n)) h := by
  have q : cO tt1 BR0 (fun x => [some x, some (.frl (bb 0 (n + 1)))]) (bb 0 (n + 1)) h = .ok ((List.range (n + 1)).map fun r => eI ((List.range (n + 1)).map fun k => if r = 0 /\ k = 0 then 1 else 0)) h :=
    eU _ (fun r hr => ET hn)
  have e : eR (BT n 0) = .frl ((List.range (n + 1)).map fun r => eI ((List.range (n + 1)).map fun k => if r = 0 /\ k = 0 then 1 else 0)) := by
    show eR (jE n _) = _
    unfold eR jE
    rw [List.map_map]; rfl
  obtain ⟨s, lp, ei⟩ := iM (σ := D × Option D) (tg := gN 3) (body := BRB) (fun (i : Nat) => D.int (1 + (i : Int))) n (fun s => [some (.int n), some (.frl (bb 0 (n + 1))), some s.1, s.2]) (fun _ => h) (fun i s => s.1 = eR (BT n i)) (fun i s hi hs => by
    obtain ⟨d, y⟩ := s
    dsimp only at hs
    subst hs
    exact ⟨(eR (BT n (i + 1)), some (.int (1 + (i : Int)))), rfl, by simp only [C4, cm, List.set]; exact D3 (y := .non) hn (by omega)⟩) n 0 (eR (BT n 0), none) (by omega) rfl
  obtain ⟨d, y⟩ := s
  dsimp only at lp ei
  subst ei
  have ir : bb 1 n = (List.range' 0 n).map fun (i : Nat) => D.int (1 + (i : Int)) := by unfold bb; rw [List.range_eq_range']
  rw [<- ir] at lp
  have e2 : dB = b8 4 (aG (bC 1 (ah (gf aC) (aa (ao (bB aC) (ag 0) (cC (.int 1))) ak)))
    (aG (bC 2 (bP aC (dH (ag 1)) [1] tt1 BR0))
    (aG (eN (dY ni (aa (cC (.int 1)) (aa (ao (bB aC) (ag 0) (cC (.int 1))) ak))) (gN 3) BRB)
    (br (ag 2))))) := rfl
  have z : n + 1 <= 1000000 := by omega
  have z1 : ((n : Int) + 1).toNat = n + 1 := by omega
  have z2 : ((n : Int) + 1).natAbs <= 1000000 := by omega
  have z3 : ((n : Int) + 1 - 1).toNat = n := by omega
  have z4 : n <= 1000000 := by omega
  rw [e2]
  rw [e] at lp
  generalize ((List.range (n + 1)).map fun r => eI ((List.range (n + 1)).map fun k => if r = 0 /\ k = 0 then 1 else 0)) = L0 at *
  generalize eR (BT n n) = W at *
  simp [bz, z, z1, z2, z3, z4, q, lp]
noncomputable def bcI (n r k : Nat) : Int := if r <= n /\ k <= n then g2 (BT n n) r k else 0
theorem vc {n r k : Nat} {h : Hh} (h1 : 1 <= n) (hn : n <= 12) (hr : r <= 20) (hk : k <= 20) : bo [.int n, .int r, .int k] h = .ok (.int (bcI n r k)) h := by
  have b := wR (n := n) (h := h) hn
  have z1 : (1 : Int) <= n /\ (n : Int) <= 20 := by omega
  have z2 : (0 : Int) <= r /\ (r : Int) <= 20 := by omega
  have z3 : (0 : Int) <= k /\ (k : Int) <= 20 := by omega
  have n1 := eG (h := h) z1
  have n2 := eG (h := h) z2
  have n3 := eG (h := h) z3
  unfold bcI
  by_cases cr : r <= n
  · have cr' : (r : Int) <= n := by omega
    by_cases ck : k <= n
    · have ck' : (k : Int) <= n := by omega
      have i1 := sX (n := n) (s := n) (r := r) (h := h) cr
      have i2 := uL (n := n) (s := n) (r := r) (k := k) (h := h) cr ck
      rw [if_pos ⟨cr, ck⟩]
      unfold eR at b
      generalize BT n n = L at *
      simp [-List.getD_eq_getElem?_getD, bo, cq, cQ, bz, n1, n2, n3, cr', ck', b, i1, eI, i2]
    · have ck' : ¬ (k : Int) <= n := by omega
      rw [if_neg (fun z => ck z.2)]
      simp [bo, cq, cQ, bz, n1, n2, n3, cr', ck']
  · have cr' : ¬ (r : Int) <= n := by omega
    rw [if_neg (fun z => cr z.1)]
    simp [bo, cq, cQ, bz, n1, n2, n3, cr']
theorem AX {n r : Nat} {h : Hh} (h1 : 1 <= n) (hn : n <= 12) (hr : r <= n) : cj [.int n, .int r] h = .ok (.int ((BT n n).getD r []).sum) h := by
  have b := wR (n := n) (h := h) hn
  have z1 : (1 : Int) <= n /\ (n : Int) <= 20 := by omega
  have z2 : (0 : Int) <= r /\ (r : Int) <= 20 := by omega
  have n1 := eG (h := h) z1
  have n2 := eG (h := h) z2
  have cr' : (r : Int) <= n := by omega
  have i1 := sX (n := n) (s := n) (r := r) (h := h) hr
  unfold eR at b
  generalize BT n n = L at *
  simp [-List.getD_eq_getElem?_getD, cj, bz, n1, n2, cr', b, i1, eI]
theorem Dp {n r : Nat} (hr : r <= n) : ((List.range (n + 1)).map fun k => bcI n r k) = (BT n n).getD r [] := by
  obtain ⟨f, e⟩ := wy n n
  rw [e, ly hr]
  refine List.map_congr_left fun k hk => ?_
  have hk := List.mem_range.mp hk
  unfold bcI
  rw [if_pos ⟨hr, by omega⟩, e, hG, if_pos ⟨hr, by omega⟩]
noncomputable def gJ (rest : List Int) (fall x : Nat) : Int := if fall <= x then gI rest (x - fall) else 0
noncomputable def rcF (fewer : List (List Int)) (lower : Nat) : List Int := (List.range (fewer.length + 1)).map fun x => ((List.range fewer.length).map fun t => gJ (fewer.getD t []) (if t < lower then 1 else 0) x).sum
noncomputable def RS : Nat -> List (List Int)
  | 0 => [[1]]
  | m + 1 => (List.range (m + 2)).map fun lower => rcF (RS m) lower
noncomputable def bmI (n k : Nat) : Int := gI ((RS n).getD 0 []) k
noncomputable def nrI (s : Nat) (before row : List Int) : List Int := (List.range 21).map fun (k : Nat) => if k = 0 then 0 else (k : Int) * gI row k + ((s : Int) - k) * gI row (k - 1) + ((s : Int) - 1) * gI before (k - 1)
noncomputable def NR : Nat -> List Int × List Int
  | 0 => ([], [])
  | s + 1 => if s = 0 then (1 :: List.replicate 20 0, List.replicate 21 0) else ((NR s).2, nrI (s + 1) (NR s).1 (NR s).2)
noncomputable def frN (n : Nat) (k : Nat -> Bool) : Bool := Nat.rec (k 0) (fun m _ => k (m + 1)) n
theorem Eo (n : Nat) (k : Nat -> Bool) : frN n k = k n := by cases n <;> rfl
noncomputable def frI (x : Int) (k : Int -> Bool) : Bool := match x with
  | .ofNat n => frN n fun m => k (.ofNat m)
  | .negSucc n => k (.negSucc n)
theorem D5 (x : Int) (k : Int -> Bool) : frI x k = k x := by
  cases x with
  | ofNat n => exact Eo n fun m => k (.ofNat m)
  | negSucc n => rfl
noncomputable def frL : List Int -> (List Int -> Bool) -> Bool
  | [], k => k []
  | x :: xs, k => frI x fun y => frL xs fun ys => k (y :: ys)
theorem vt : ∀ (l : List Int) (k : List Int -> Bool), frL l k = k l
  | [], k => rfl
  | x :: xs, k => by unfold frL; rw [D5, vt]
noncomputable def frM : List (List Int) -> (List (List Int) -> Bool) -> Bool
  | [], k => k []
  | x :: xs, k => frL x fun y => frM xs fun ys => k (y :: ys)
theorem wD : ∀ (l : List (List Int)) (k : List (List Int) -> Bool), frM l k = k l
  | [], k => rfl
  | x :: xs, k => by unfold frM; rw [vt, wD]
noncomputable def ckA (n : Nat) (R B : List (List Int)) (N : List Int) : Bool := (List.range 12).all fun k => (((List.range (n + 1)).map fun r => if k <= n then g2 B r k else 0).sum == gI (R.getD 0 []) k) && decide (gI N k <= gI (R.getD 0 []) k)
noncomputable def ckG : Nat -> Nat -> List (List Int) -> List (List Int) -> List Int -> List Int -> Bool
  | 0, _, _, _, _, _ => true
  | f + 1, m, R, B, N1, N2 => ckA m R B N2 && frM ((List.range (m + 2)).map fun lower => rcF R lower) fun R' => frM (jE 12 (bnI (m + 1) (g2 B))) fun B' => frL (nrI (m + 1) N1 N2) fun N' => ckG f (m + 1) R' B' N2 N'
theorem xb : ∀ (f m : Nat), 1 <= m -> ckG f m (RS m) (BT 12 m) (NR m).1 (NR m).2 = true -> ∀ i, i < f -> ckA (m + i) (RS (m + i)) (BT 12 (m + i)) (NR (m + i)).2 = true
  | 0, m, _, _, i, hi => by omega
  | f + 1, m, hm, e, i, hi => by
    unfold ckG at e
    rw [Bool.and_eq_true, wD, wD, vt] at e
    obtain ⟨e1, e2⟩ := e
    cases i with
    | zero => exact e1
    | succ i =>
      have a : NR (m + 1) = ((NR m).2, nrI (m + 1) (NR m).1 (NR m).2) := by
        show (if m = 0 then _ else _) = _
        rw [if_neg (by omega)]
      have := xb f (m + 1) (by omega) (by rw [a]; exact e2) i (by omega)
      rw [show m + (i + 1) = m + 1 + i by omega]
      exact this
theorem D4 : ckG 12 1 (RS 1) (BT 12 1) (NR 1).1 (NR 1).2 = true := by decide +kernel
theorem sx {n : Nat} (hn : n <= 12) : ∀ s r k, r <= n -> k <= n -> g2 (BT n s) r k = g2 (BT 12 s) r k
  | 0, r, k, hr, hk => by
    show g2 (jE n _) r k = g2 (jE 12 _) r k
    rw [hG, hG, if_pos (show r <= n /\ k <= n from ⟨hr, hk⟩), if_pos (show r <= 12 /\ k <= 12 from ⟨by omega, by omega⟩)]
  | s + 1, r, k, hr, hk => by
    show g2 (jE n _) r k = g2 (jE 12 _) r k
    rw [hG, hG, if_pos (show r <= n /\ k <= n from ⟨hr, hk⟩), if_pos (show r <= 12 /\ k <= 12 from ⟨by omega, by omega⟩)]
    unfold bnI
    rw [sx hn s (r - 1) k (by omega) hk, sx hn s r k hr hk, sx hn s r (k - 1) hr (by omega)]
theorem HZ {n k : Nat} (h1 : 1 <= n) (hn : n <= 12) (hk : k < 12) : ((List.range (n + 1)).map fun r => bcI n r k).sum = bmI n k /\ gI (NR n).2 k <= bmI n k := by
  have c := xb 12 1 (by omega) D4 (n - 1) (by omega)
  rw [show 1 + (n - 1) = n by omega] at c
  unfold ckA at c
  have c := List.all_eq_true.mp c k (List.mem_range.mpr hk)
  rw [Bool.and_eq_true] at c
  refine ⟨?_, of_decide_eq_true c.2⟩
  have e := eq_of_beq c.1
  rw [show bmI n k = gI ((RS n).getD 0 []) k from rfl, <- e]
  congr 1
  refine List.map_congr_left fun r hr => ?_
  have hr := List.mem_range.mp hr
  unfold bcI
  by_cases z : k <= n
  · rw [if_pos ⟨by omega, z⟩, if_pos z, sx hn n r k (by omega) z]
  · rw [if_neg (fun q => z q.2), if_neg z]
noncomputable def RCB : MS := (sA (ag 2) (ao (bB aC) (ag 6) (ag 5)) (ag 7))
theorem B_ (os : List Int) : dN (os.map D.int) = (List.range' 0 os.length).map fun (i : Nat) => D.tup [.int i, .int (gI os i)] := by
  rw [l_, List.range_eq_range']
theorem DC {l : List Int} {i j : Nat} {v : Int} (hj : j < l.length) : gI (l.set i v) j = if i = j then v else gI l j := by
  rw [bD (by simpa using hj), bD hj, List.getElem_set]
theorem oZ {l : List Int} {j : Nat} (hj : l.length <= j) : gI l j = 0 := by
  unfold gI; rw [List.getD_eq_getElem?_getD, List.getElem?_eq_none hj]; rfl
theorem EX {n : Nat} {ns : List Int} {i : Int} {j : Nat} {h : Hh} (e : aH h n = some (ns.map D.int)) (hi : i = (j : Int)) (hj : j < ns.length) : yc (.ref n) (.int i) h = .ok (.int (gI ns j)) h := by
  have := dE (h := h) (ns := ns) hi hj
  delta yc; dsimp only; rw [mW e]; exact this
theorem A_ {rest c : List Int} {fall : Nat} {d0 d1 d3 d4 y6 y7 : Option D} (hl : rest.length + fall <= c.length) : ∃ c' z6 z7, c'.length = c.length /\ (∀ x, x < c.length -> gI c' x = gI c x + gJ rest fall x) /\ ef (gT2 6 7) RCB (dN (rest.map D.int)) [d0, d1, some (.ref 0), d3, d4, some (.int fall), y6, y7] [.lst (c.map D.int)] = .ok (.nx [d0, d1, some (.ref 0), d3, d4, some (.int fall), z6, z7]) [.lst (c'.map D.int)] := by
  obtain ⟨s, q, e⟩ := iM (σ := List Int × Option D × Option D) (tg := gT2 6 7) (body := RCB) (fun (i : Nat) => D.tup [.int i, .int (gI rest i)]) rest.length (fun s => [d0, d1, some (.ref 0), d3, d4, some (.int fall), s.2.1, s.2.2]) (fun s => [.lst (s.1.map D.int)]) (fun j s => s.1.length = c.length /\ ∀ x, x < c.length -> gI s.1 x = gI c x + (if fall <= x /\ x - fall < j then gI rest (x - fall) else 0)) (fun j s hj hs => by
    obtain ⟨Z, y6, y7⟩ := s
    obtain ⟨zl, hv⟩ := hs
    dsimp only at zl hv ⊢
    refine ⟨(Z.set (j + fall) (gI Z (j + fall) + gI rest j), some (.int j), some (.int (gI rest j))), ⟨by simp [zl], fun x hx => ?_⟩, ?_⟩
    · dsimp only
      rw [DC (by omega)]
      by_cases c1 : j + fall = x
      · rw [if_pos c1, c1, hv x hx, if_neg (by omega), if_pos (by omega), show x - fall = j by omega]; omega
      · rw [if_neg c1, hv x hx]
        congr 1
        by_cases c2 : fall <= x /\ x - fall < j
        · rw [if_pos c2, if_pos (by omega)]
        · rw [if_neg c2, if_neg (by omega)]
    · dsimp only
      have lz : aH [O.lst (Z.map D.int)] 0 = some (Z.map D.int) := rfl
      have n2 : ixN (Z.map D.int).length ((j : Int) + fall) = some (j + fall) := by rw [List.length_map]; exact k7 (by omega) (by omega)
      have st : cF (.ref 0) (.int ((j : Int) + fall)) (.int (gI Z (j + fall) + gI rest j)) [.lst (Z.map D.int)] = .ok () [.lst ((Z.set (j + fall) (gI Z (j + fall) + gI rest j)).map D.int)] := by
        rw [ip lz n2, List.map_set]; rfl
      have ix : yc (.ref 0) (.int ((j : Int) + fall)) [.lst (Z.map D.int)] = .ok (.int (gI Z (j + fall))) [.lst (Z.map D.int)] := by
        exact EX lz (by omega) (by omega)
      simp [RCB, ix, st]) rest.length 0 (c, y6, y7) (by omega) ⟨rfl, fun x hx => by rw [if_neg (by omega)]; exact (Int.add_zero _).symm⟩
  obtain ⟨c', z6, z7⟩ := s
  obtain ⟨zl, hv⟩ := e
  dsimp only at zl hv q
  refine ⟨c', z6, z7, zl, fun x hx => ?_, by rw [B_]; exact q⟩
  rw [hv x hx]
  unfold gJ
  by_cases c1 : fall <= x
  · rw [if_pos c1]
    by_cases c2 : x - fall < rest.length
    · rw [if_pos ⟨c1, c2⟩]
    · rw [if_neg (fun z => c2 z.2), oZ (l := rest) (by omega)]
  · rw [if_neg c1, if_neg (fun z => c1 z.1)]
theorem C1 (L : List (List Int)) : dN (L.map eI) = (List.range' 0 L.length).map fun (i : Nat) => D.tup [.int i, eI (L.getD i [])] := by
  unfold dN
  rw [List.length_map, List.range_eq_range']
  refine List.map_congr_left fun i hi => ?_
  have l : i < L.length := by
    have := List.mem_range'_1.mp hi; omega
  rw [List.getD_eq_getElem?_getD, List.getElem?_map, List.getElem?_eq_getElem l, List.getD_eq_getElem?_getD, List.getElem?_eq_getElem l]; rfl
noncomputable def RCO : MS := (aG (bC 5 (cIf (aI asB (ao dLt (ag 3) (ag 1))) (cC (.int 1)) (cC (.int 0)))) (eN (ie (ag 4)) (gT2 6 7) RCB))
theorem zA {L : List (List Int)} {lower : Nat} (hl : ∀ b ∈ L, b.length <= L.length) : ∃ y3 y4 y5 y6 y7, ef (gT2 3 4) RCO (dN (L.map eI)) [some (eR L), some (.int lower), some (.ref 0), none, none, none, none, none] [.lst ((List.replicate (L.length + 1) (0 : Int)).map D.int)] = .ok (.nx [some (eR L), some (.int lower), some (.ref 0), y3, y4, y5, y6, y7]) [.lst ((rcF L lower).map D.int)] := by
  obtain ⟨s, q, e⟩ := iM (σ := List Int × Option D × Option D × Option D × Option D × Option D) (tg := gT2 3 4) (body := RCO) (fun (i : Nat) => D.tup [.int i, eI (L.getD i [])]) L.length (fun s => [some (eR L), some (.int lower), some (.ref 0), s.2.1, s.2.2.1, s.2.2.2.1, s.2.2.2.2.1, s.2.2.2.2.2]) (fun s => [.lst (s.1.map D.int)]) (fun i s => s.1.length = L.length + 1 /\ ∀ x, x < L.length + 1 -> gI s.1 x = ((List.range i).map fun t => gJ (L.getD t []) (if t < lower then 1 else 0) x).sum) (fun i s hi hs => by
    obtain ⟨c, y3, y4, y5, y6, y7⟩ := s
    obtain ⟨cl, hv⟩ := hs
    dsimp only at cl hv ⊢
    have rl : (L.getD i []).length <= L.length := by
      rw [List.getD_eq_getElem?_getD, List.getElem?_eq_getElem hi]
      exact hl _ (List.getElem_mem hi)
    obtain ⟨c', z6, z7, cl', hv', q⟩ := A_ (rest := L.getD i []) (c := c) (fall := if i < lower then 1 else 0) (d0 := some (eR L)) (d1 := some (.int lower)) (d3 := some (.int i)) (d4 := some (eI (L.getD i []))) (y6 := y6) (y7 := y7) (by split <;> omega)
    refine ⟨(c', some (.int i), some (eI (L.getD i [])), some (.int ((if i < lower then 1 else 0 : Nat) : Int)), z6, z7), ⟨by dsimp only; omega, fun x hx => ?_⟩, ?_⟩
    · dsimp only
      rw [hv' x (by omega), hv x hx, List.range_succ, List.map_append, List.sum_append]
      simp
    · dsimp only
      generalize L.getD i [] = rest at *
      by_cases c1 : i < lower
      · have c2 : (i : Int) < lower := by omega
        rw [if_pos c1] at q
        rw [if_pos c1]
        generalize eR L = W at *
        simp only [eI] at q ⊢
        simp [RCO, c2] at q ⊢
        exact q
      · have c2 : ¬ (i : Int) < lower := by omega
        rw [if_neg c1] at q
        rw [if_neg c1]
        generalize eR L = W at *
        simp only [eI] at q ⊢
        simp [RCO, c2] at q ⊢
        exact q) L.length 0 (List.replicate (L.length + 1) 0, none, none, none, none, none) (by omega) ⟨by simp, fun x hx => by
      rw [bD (by simpa using hx)]; simp⟩
  obtain ⟨c, y3, y4, y5, y6, y7⟩ := s
  obtain ⟨cl, hv⟩ := e
  dsimp only at cl hv q
  refine ⟨y3, y4, y5, y6, y7, ?_⟩
  have ec : c = rcF L lower := by
    refine DJ (by unfold rcF; simp [cl]) fun x hx => ?_
    rw [hv x (by omega)]
    unfold rcF
    rw [bD (by simp; omega)]; simp
  rw [C1, <- ec]
  exact q
theorem tE {k : Nat} {b : List Int} : dD k (eI b) = true := by simp [eI, dD]
theorem A0 {k : Nat} {L : List (List Int)} : dD k (eR L) = true := by
  unfold eR; simp only [dD]; exact jH fun b => tE
theorem Im {L : List (List Int)} {lower : Nat} {h : Hh} (hl : ∀ b ∈ L, b.length <= L.length) (h20 : L.length <= 20) : cI [eR L, .int lower] h = .ok (eI (rcF L lower)) h := by
  obtain ⟨y3, y4, y5, y6, y7, q⟩ := zA (L := L) (lower := lower) hl
  have e : cI = gT (fun ds h => ((b8 8 (aG (bC 2 (ao (f7 iY) (ah (fo aC) (aa (cC (.int 0)) ak)) (ao (bB aC) (ah bF (aa (ag 0) ak)) (cC (.int 1)))))
    (aG (eN (ie (ag 0)) (gT2 3 4) RCO) (br (ag 2))))) ds h).bind (cf h)) := rfl
  have lo1 : bU 0 [eR L, .int lower] = true := by simp only [bU, A0]; rfl
  have lo2 : dD 0 (eI (rcF L lower)) = true := tE
  have ex := mz (h := []) (t := []) (ds := (rcF L lower).map D.int) Wf.nil (by simp [deep])
  have z1 : L.length + 1 <= 1000000 := by omega
  have z2 : ((L.length : Int) + 1).toNat = L.length + 1 := by omega
  have z3 : ((L.length : Int) + 1).natAbs <= 1000000 := by omega
  have z4 : 1 <= (L.length : Int) + 1 := by omega
  have rp : ∀ m : Nat, (List.replicate m [D.int 0]).flatten = List.replicate m (D.int 0) := fun m => by
    induction m with
    | zero => rfl
    | succ m ih => rw [List.replicate_succ, List.flatten_cons, ih, List.replicate_succ]; rfl
  rw [List.map_replicate] at q
  simp only [List.nil_append, List.length_nil] at ex
  rw [e]
  have ll : (L.map eI).length = L.length := by simp
  show _ = R.ok (D.frl ((rcF L lower).map D.int)) h
  change dD 0 (.frl ((rcF L lower).map D.int)) = true at lo2
  unfold eR at *
  generalize L.map eI = LL at *
  generalize (rcF L lower).map D.int = W at *
  simp [gT, lo1, bz, ll, z1, z2, z3, z4, rp, q, ex, lo2]
theorem AU : ∀ m, (RS m).length = m + 1 /\ ∀ b ∈ RS m, b.length = m + 1
  | 0 => ⟨rfl, fun b hb => by simp [RS] at hb; subst hb; rfl⟩
  | m + 1 => by
    have k := AU m
    refine ⟨by simp [RS], fun b hb => ?_⟩
    simp only [RS, List.mem_map, List.mem_range] at hb
    obtain ⟨l, _, rfl⟩ := hb
    simp [rcF, k.1]
noncomputable def RSB : MS := (cb (fe du (ag 1) (aa (bP aC (dY gq (aa (ao (bB aC) (ag 2) (cC (.int 1))) ak)) [1] tt1 (ah cI (aa (ao dIx (ag 1) (cUn jQ (cC (.int 1)))) (aa (ag 0) ak)))) ak)))
noncomputable def rsL (i : Nat) : List D := (List.range (i + 1)).map fun j => eR (RS j)
theorem Hb (i : Nat) : rsL (i + 1) = rsL i ++ [eR (RS (i + 1))] := by
  unfold rsL; rw [List.range_succ, List.map_append]; rfl
theorem E8 {n i : Nat} (hi : i <= 12) : RSB [some (.int n), some (.ref 0), some (.int (1 + (i : Int)))] [.lst (rsL i)] = .ok (.nx [some (.int n), some (.ref 0), some (.int (1 + (i : Int)))]) [.lst (rsL (i + 1))] := by
  have k := AU i
  have la : dIx (.ref 0) (.int (-1)) [.lst (rsL i)] = .ok (eR (RS i)) [.lst (rsL i)] := by
    rw [mW rfl]
    unfold rsL
    rw [List.range_succ, List.map_append, List.map_cons, List.map_nil]
    exact yY
  have q : cO tt1 (ah cI (aa (ao dIx (ag 1) (cUn jQ (cC (.int 1)))) (aa (ag 0) ak))) (fun x => [some x, some (.ref 0)]) (bb 0 (i + 2)) [.lst (rsL i)] = .ok ((List.range (i + 2)).map fun l => eI (rcF (RS i) l)) [.lst (rsL i)] :=
    eU _ (fun l hl => by
      have := Im (L := RS i) (lower := l) (h := [.lst (rsL i)]) (fun b hb => by rw [k.1, k.2 b hb]; exact Nat.le_refl _) (by omega)
      simp [la, this])
  have e : eR (RS (i + 1)) = .frl ((List.range (i + 2)).map fun l => eI (rcF (RS i) l)) := by
    show eR ((List.range (i + 2)).map _) = _
    unfold eR
    rw [List.map_map]; rfl
  have ll : (rsL i).length < 1000000 := by unfold rsL; simp; omega
  have ap : du (.ref 0) [eR (RS (i + 1))] [.lst (rsL i)] = .ok .non [.lst (rsL (i + 1))] := by
    rw [u7 (show aH [O.lst (rsL i)] 0 = some (rsL i) from rfl), if_pos ll, Hb]; rfl
  rw [e] at ap
  have z1 : (1 + (i : Int) + 1).toNat = i + 2 := by omega
  have z2 : (1 + (i : Int) + 1).natAbs <= 1000000 := by omega
  have z3 : i + 2 <= 1000000 := by omega
  have il : isL (.ref 0) [O.lst (rsL i)] = true := rfl
  generalize ((List.range (i + 2)).map fun l => eI (rcF (RS i) l)) = W at *
  generalize rsL i = L1 at *
  generalize rsL (i + 1) = L2 at *
  simp [RSB, il, z1, z2, z3, q, ap]
theorem Dw {k : Nat} {L : List (List Int)} : deep (k + 3) (eR L) = true := by
  unfold eR
  simp only [deep, List.all_map, List.all_eq_true]
  intro b _
  simp [eI, deep]
theorem C_ {n : Nat} {h : Hh} (hn : n <= 12) : gg [.int n] h = .ok (.frl (rsL n)) h := by
  obtain ⟨s, lp, ei⟩ := iM (σ := List D × Option D) (tg := gN 2) (body := RSB) (fun (i : Nat) => D.int (1 + (i : Int))) n (fun s => [some (.int n), some (.ref 0), s.2]) (fun s => [.lst s.1]) (fun i s => s.1 = rsL i) (fun i s hi hs => by
    obtain ⟨d, y⟩ := s
    dsimp only at hs
    subst hs
    exact ⟨(rsL (i + 1), some (.int (1 + (i : Int)))), rfl, by simp only [C4, cm, List.set]; exact E8 (by omega)⟩) n 0 (rsL 0, none) (by omega) rfl
  obtain ⟨d, y⟩ := s
  dsimp only at lp ei
  subst ei
  have ir : bb 1 n = (List.range' 0 n).map fun (i : Nat) => D.int (1 + (i : Int)) := by unfold bb; rw [List.range_eq_range']
  rw [<- ir] at lp
  have e2 : gg = gT (fun ds h => ((b8 3 (aG (bC 1 (ah (fo iY) (aa (ah (fo aC) (aa (ah (fo aC) (aa (cC (.int 1)) ak)) ak)) ak)))
    (aG (eN (dY ni (aa (cC (.int 1)) (aa (ao (bB aC) (ag 0) (cC (.int 1))) ak))) (gN 2) RSB)
    (br (ag 1))))) ds h).bind (cf h)) := rfl
  have lo1 : bU 0 [.int (n : Int)] = true := rfl
  have lo2 : dD 0 (.frl (rsL n)) = true := by
    simp only [dD]
    unfold rsL
    exact jH fun b => A0
  have ex := mz (h := []) (t := []) (ds := rsL n) Wf.nil (by
    unfold rsL
    rw [List.all_map, List.all_eq_true]
    intro b _
    exact Dw (k := 4))
  have z2 : ((n : Int) + 1).natAbs <= 1000000 := by omega
  have z3 : ((n : Int) + 1 - 1).toNat = n := by omega
  have z4 : n <= 1000000 := by omega
  have r0 : rsL 0 = [.frl [.frl [.int 1]]] := rfl
  rw [r0] at lp
  simp only [List.nil_append, List.length_nil] at ex
  rw [e2]
  generalize rsL n = W at *
  simp [gT, lo1, bz, iY, z2, z3, z4, lp, ex, lo2]
theorem B1 {n : Nat} {h : Hh} (w : Wf h) : cR [.int n, .tup []] h = .ok (.bl true) h := by
  have ex : cf h (.bl true) (h ++ [.set []]) = .ok (.bl true) h := cX w rfl
  have st : u4 [.tup []] h = .ok (.ref h.length) (h ++ [.set []]) := by
    have := Fn (h := h) (ns := [])
    rw [List.map_nil] at this
    rw [this]; rfl
  have c : ¬ (n : Int) < 0 := by omega
  simp [cR, bz, c, st, xD, ex]
theorem wM {n k : Nat} {h : Hh} (h1 : 1 <= n) (hn : n <= 12) (hk : k <= 12) (w : Wf h) : bI [.int n, .int k, .tup []] h = .ok (.int (bmI n k)) h := by
  have r := C_ (n := n) (h := h) hn
  have bg := B1 (n := n) w
  have z1 : (1 : Int) <= n /\ (n : Int) <= 12 := by omega
  have z2 : (0 : Int) <= k /\ (k : Int) <= 12 := by omega
  have n1 := eG (h := h) z1
  have n2 := eG (h := h) z2
  have rl : (rsL n).length = n + 1 := by unfold rsL; simp
  have i1 : ixK (rsL n) (n : Int) h = .ok (eR (RS n)) h := jI rfl (by unfold rsL; rw [List.getElem?_map, List.getElem?_range (by omega)]; rfl)
  have ks := AU n
  have i2 : ixK ((RS n).map eI) 0 h = .ok (eI ((RS n).getD 0 [])) h := jI (j := 0) rfl (by
    rw [List.getElem?_map, List.getD_eq_getElem?_getD, List.getElem?_eq_getElem (by omega)]; rfl)
  have l0 : ((RS n).getD 0 []).length = n + 1 := by
    rw [List.getD_eq_getElem?_getD, List.getElem?_eq_getElem (by omega)]
    exact ks.2 _ (List.getElem_mem _)
  have fi : dz [.tup []] h = .ok (.tup []) h := by kernel_rfl
  have ll : fE [.tup []] h = .ok (.int 0) h := by kernel_rfl
  unfold bmI
  have z4 : (n : Int) + 1 - 1 = n := by omega
  by_cases c : k < n + 1
  · have i3 := dE (h := h) (ns := (RS n).getD 0 []) (i := (k : Int)) (j := k) rfl (by omega)
    have c' : (k : Int) < (n : Int) + 1 := by omega
    have bc : cB [.frl (rsL n), .int k, .tup []] h = .ok (.int (gI ((RS n).getD 0 []) k)) h := by
      unfold eR at i1
      generalize (RS n).getD 0 [] = R0 at *
      generalize (RS n).map eI = RN at *
      generalize rsL n = RL at *
      simp [cB, bz, rl, z4, i1, ll, i2, fi, eI, l0, c', i3]
    simp [bI, cN, cc, bz, n1, n2, bg, r, bc]
  · have c' : ¬ (k : Int) < (n : Int) + 1 := by omega
    have g0 : gI ((RS n).getD 0 []) k = 0 := oZ (by omega)
    have bc : cB [.frl (rsL n), .int k, .tup []] h = .ok (.int 0) h := by
      unfold eR at i1
      generalize (RS n).getD 0 [] = R0 at *
      generalize (RS n).map eI = RN at *
      generalize rsL n = RL at *
      simp [cB, bz, rl, z4, i1, ll, i2, fi, eI, l0, c']
    rw [g0]
    simp [bI, cN, cc, bz, n1, n2, bg, r, bc]
theorem zz {s k : Nat} {b r : List Int} (hk : k < 21) : gI (nrI s b r) k = if k = 0 then 0 else (k : Int) * gI r k + ((s : Int) - k) * gI r (k - 1) + ((s : Int) - 1) * gI b (k - 1) := by
  rw [bD (by simp [nrI, hk])]; simp [nrI]
theorem vZ {s : Nat} {b r : List Int} : (nrI s b r).length = 21 := by simp [nrI]
theorem F7 {s k B : Nat} {b r : List Int} (hs : s <= 12) (h1 : 1 <= s) (hb : ∀ x, (gI b x).natAbs <= B) (hr : ∀ x, (gI r x).natAbs <= B) : (gI (nrI s b r) k).natAbs <= 60 * B := by
  by_cases hk : k < 21
  · rw [zz hk]
    have m1 : ((k : Int) * gI r k).natAbs <= 20 * B := by rw [Int.natAbs_mul]; exact Nat.mul_le_mul (by omega) (hr k)
    have m2 : (((s : Int) - k) * gI r (k - 1)).natAbs <= 20 * B := by rw [Int.natAbs_mul]; exact Nat.mul_le_mul (by omega) (hr _)
    have m3 : (((s : Int) - 1) * gI b (k - 1)).natAbs <= 20 * B := by rw [Int.natAbs_mul]; exact Nat.mul_le_mul (by omega) (hb _)
    generalize (k : Int) * gI r k = u at *
    generalize ((s : Int) - k) * gI r (k - 1) = v at *
    generalize ((s : Int) - 1) * gI b (k - 1) = t at *
    split <;> omega
  · rw [oZ (by rw [vZ]; omega)]; exact Nat.zero_le _
theorem G1 {s : Nat} (hs : 1 <= s) : NR (s + 1) = ((NR s).2, nrI (s + 1) (NR s).1 (NR s).2) := by
  show (if s = 0 then _ else _) = _
  rw [if_neg (by omega)]
theorem wV : ∀ s, 1 <= s -> s <= 12 -> (NR s).1.length = 21 /\ (NR s).2.length = 21 /\ (∀ x, (gI (NR s).1 x).natAbs <= 60 ^ s) /\ (∀ x, (gI (NR s).2 x).natAbs <= 60 ^ s)
  | 0, h, _ => by omega
  | s + 1, _, hs => by
    by_cases c : s = 0
    · subst c
      have g1 : ∀ x, (gI (NR 1).1 x).natAbs <= 60 ^ 1 := fun x => by
        by_cases hx : x < 21
        · have : ∀ x, x < 21 -> (gI (NR 1).1 x).natAbs <= 60 ^ 1 := by decide
          exact this x hx
        · rw [oZ (by show 21 <= x; omega)]; exact Nat.zero_le _
      have g2 : ∀ x, (gI (NR 1).2 x).natAbs <= 60 ^ 1 := fun x => by
        by_cases hx : x < 21
        · have : ∀ x, x < 21 -> (gI (NR 1).2 x).natAbs <= 60 ^ 1 := by decide
          exact this x hx
        · rw [oZ (by show 21 <= x; omega)]; exact Nat.zero_le _
      exact ⟨rfl, rfl, g1, g2⟩
    · obtain ⟨l1, l2, b1, b2⟩ := wV s (by omega) (by omega)
      rw [G1 (by omega)]
      refine ⟨l2, vZ, fun x => ?_, fun x => ?_⟩
      · have := b2 x
        rw [Nat.pow_succ]; dsimp only; omega
      · have := F7 (s := s + 1) (k := x) hs (by omega) b1 b2
        rw [Nat.pow_succ]; dsimp only; omega
noncomputable def NRB : MS := (eO cF (ag 3) (ag 4) (ao (bB aC) (ao (bB aC) (ao (f7 aC) (ag 4) (ao dIx (ag 2) (ag 4))) (ao (f7 aC) (ao fq (ag 0) (ag 4)) (ao dIx (ag 2) (ao fq (ag 4) (cC (.int 1)))))) (ao (f7 aC) (ao fq (ag 0) (cC (.int 1))) (ao dIx (ag 1) (ao fq (ag 4) (cC (.int 1)))))))
theorem E1 {s k : Nat} {b r c : List Int} (hs : s <= 12) (lb : b.length = 21) (lr : r.length = 21) (lc : c.length = 21) (k1 : 1 <= k) (hk : k < 21) (sb : ∀ x, sml (gI b x) = true) (sr : ∀ x, sml (gI r x) = true) : NRB [some (.int s), some (eI b), some (eI r), some (.ref 0), some (.int k)] [.lst (c.map D.int)] = .ok (.nx [some (.int s), some (eI b), some (eI r), some (.ref 0), some (.int k)]) [.lst ((c.set k (gI (nrI s b r) k)).map D.int)] := by
  have i1 := dE (h := [.lst (c.map D.int)]) (ns := r) (i := (k : Int)) (j := k) rfl (by omega)
  have i2 := dE (h := [.lst (c.map D.int)]) (ns := r) (i := (k : Int) - 1) (j := k - 1) (by omega) (by omega)
  have i3 := dE (h := [.lst (c.map D.int)]) (ns := b) (i := (k : Int) - 1) (j := k - 1) (by omega) (by omega)
  have s1 : sml (k : Int) = true := xv (by omega) (by omega)
  have s2 : sml ((s : Int) - k) = true := kD (Nat.le_trans (show _ <= 100 by omega) (by decide +kernel))
  have s3 : sml ((s : Int) - 1) = true := kD (Nat.le_trans (show _ <= 100 by omega) (by decide +kernel))
  have n2 : ixN (c.map D.int).length (k : Int) = some k := by rw [List.length_map]; exact k7 rfl (by omega)
  have st : ∀ v : Int, cF (.ref 0) (.int (k : Int)) (.int v) [.lst (c.map D.int)] = .ok () [.lst ((c.set k v).map D.int)] := fun v => by
    rw [ip (show aH [O.lst (c.map D.int)] 0 = some (c.map D.int) from rfl) n2, List.map_set]; rfl
  rw [zz hk, if_neg (by omega)]
  simp [NRB, eI, i1, i2, i3, s1, s2, s3, sb, sr, st]
theorem Ec {s : Nat} {b r : List Int} {h : Hh} (hs : s <= 12) (lb : b.length = 21) (lr : r.length = 21) (sb : ∀ x, sml (gI b x) = true) (sr : ∀ x, sml (gI r x) = true) : eQ [.int s, eI b, eI r] h = .ok (eI (nrI s b r)) h := by
  obtain ⟨q0, lp, ei⟩ := iM (σ := List Int × Option D) (tg := gN 4) (body := NRB) (fun (i : Nat) => D.int (1 + (i : Int))) 20 (fun s0 => [some (.int s), some (eI b), some (eI r), some (.ref 0), s0.2]) (fun s0 => [.lst (s0.1.map D.int)]) (fun i s0 => s0.1.length = 21 /\ ∀ x, x < 21 -> gI s0.1 x = if x <= i then gI (nrI s b r) x else 0) (fun i s0 hi hs0 => by
    obtain ⟨c, y⟩ := s0
    obtain ⟨lc, hv⟩ := hs0
    dsimp only at lc hv ⊢
    have e : (1 + (i : Int)) = ((i + 1 : Nat) : Int) := by omega
    refine ⟨(c.set (i + 1) (gI (nrI s b r) (i + 1)), some (.int (1 + (i : Int)))), ⟨by simp [lc], fun x hx => ?_⟩, ?_⟩
    · dsimp only
      rw [DC (by omega)]
      by_cases c1 : i + 1 = x
      · rw [if_pos c1, if_pos (by omega), c1]
      · rw [if_neg c1, hv x hx]
        by_cases c2 : x <= i
        · rw [if_pos c2, if_pos (by omega)]
        · rw [if_neg c2, if_neg (by omega)]
    · dsimp only
      simp only [C4, cm, List.set]
      rw [e]
      exact E1 hs lb lr lc (by omega) (by omega) sb sr) 20 0 (List.replicate 21 0, none) (by omega) ⟨by simp, fun x hx => by
      have g0 : gI (List.replicate 21 0) x = 0 := by rw [bD (by rw [List.length_replicate]; exact hx), List.getElem_replicate]
      dsimp only
      rw [g0]
      by_cases c : x <= 0
      · have : x = 0 := by omega
        subst this
        rw [if_pos c, zz (by omega)]; rfl
      · rw [if_neg c]⟩
  obtain ⟨c, y⟩ := q0
  obtain ⟨lc, hv⟩ := ei
  dsimp only at lc hv lp
  have ec : c = nrI s b r := DJ (by rw [lc, vZ]) fun x hx => by rw [hv x (by omega), if_pos (by omega)]
  subst ec
  have ir : bb 1 20 = (List.range' 0 20).map fun (i : Nat) => D.int (1 + (i : Int)) := by unfold bb; rw [List.range_eq_range']
  rw [<- ir, List.map_replicate] at lp
  have e2 : eQ = gT (fun ds h => ((b8 5 (aG (bC 3 (ao (f7 iY) (ah (fo aC) (aa (cC (.int 0)) ak)) (ah bF (aa (ag 2) ak))))
    (aG (eN (dY ni (aa (cC (.int 1)) (aa (ah bF (aa (ag 2) ak)) ak))) (gN 4) NRB)
    (br (ag 3))))) ds h).bind (cf h)) := rfl
  have lo1 : bU 0 [.int (s : Int), eI b, eI r] = true := by simp only [bU, tE]; rfl
  have lo2 : dD 0 (.frl ((nrI s b r).map D.int)) = true := tE
  have ex := mz (h := []) (t := []) (ds := (nrI s b r).map D.int) Wf.nil (by simp [deep])
  have lr' : (r.map D.int).length = 21 := by simp [lr]
  have rp : (List.replicate 21 [D.int 0]).flatten = List.replicate 21 (D.int 0) := rfl
  simp only [List.nil_append, List.length_nil] at ex
  rw [e2]
  show _ = R.ok (D.frl ((nrI s b r).map D.int)) h
  generalize (nrI s b r).map D.int = W at *
  unfold eI at *
  generalize r.map D.int = RD at *
  generalize b.map D.int = BD at *
  have r2 : List.replicate 2 (none : Option D) = [none, none] := rfl
  simp [-List.reduceReplicate, r2, gT, lo1, bz, lr', rp, lp, ex, lo2]
theorem Fe {n k : Nat} {h : Hh} (h1 : 1 <= n) (hn : n <= 12) (hk : k <= 20) : cV [.int n, .int k] h = .ok (.int (gI (NR n).2 k)) h := by
  have sm : ∀ s, 1 <= s -> s <= 12 -> (∀ x, sml (gI (NR s).1 x) = true) /\ (∀ x, sml (gI (NR s).2 x) = true) := fun s a b => by
    obtain ⟨_, _, b1, b2⟩ := wV s a b
    have p : 60 ^ s <= 10 ^ 560 := Nat.le_trans (Nat.pow_le_pow_right (by decide) b) (by decide +kernel)
    exact ⟨fun x => kD (Nat.le_trans (b1 x) p), fun x => kD (Nat.le_trans (b2 x) p)⟩
  obtain ⟨q0, lp, ei⟩ := iM (σ := (List Int × List Int) × Option D) (tg := gN 4) (body := (xY 2 3 (aa (ag 3) (aa (ah eQ (aa (ag 4) (aa (ag 2) (aa (ag 3) ak)))) ak)))) (fun (i : Nat) => D.int (2 + (i : Int))) (n - 1) (fun s0 => [some (.int n), some (.int k), some (eI s0.1.1), some (eI s0.1.2), s0.2]) (fun _ => h) (fun i s0 => s0.1 = NR (i + 1)) (fun i s0 hi hs0 => by
    obtain ⟨c, y⟩ := s0
    dsimp only at hs0
    subst hs0
    obtain ⟨l1, l2, _, _⟩ := wV (i + 1) (by omega) (by omega)
    obtain ⟨m1, m2⟩ := sm (i + 1) (by omega) (by omega)
    have x := Ec (s := i + 2) (h := h) (by omega) l1 l2 m1 m2
    rw [show ((i + 2 : Nat) : Int) = 2 + (i : Int) by omega] at x
    refine ⟨(NR (i + 2), some (.int (2 + (i : Int)))), rfl, ?_⟩
    dsimp only
    rw [G1 (s := i + 1) (by omega)]
    generalize NR (i + 1) = N at *
    dsimp only
    simp [x]) (n - 1) 0 (NR 1, none) (by omega) rfl
  obtain ⟨c, y⟩ := q0
  dsimp only at lp ei
  subst ei
  rw [show n - 1 + 1 = n by omega] at lp
  have ir : bb 2 (n - 1) = (List.range' 0 (n - 1)).map fun (i : Nat) => D.int (2 + (i : Int)) := by unfold bb; rw [List.range_eq_range']
  rw [<- ir] at lp
  have e1 : eI (NR 1).1 = .frl (.int 1 :: List.replicate 20 (.int 0)) := by
    show eI (1 :: List.replicate 20 0) = _
    unfold eI; rw [List.map_cons, List.map_replicate]
  have e2 : eI (NR 1).2 = .frl (List.replicate 21 (.int 0)) := by
    show eI (List.replicate 21 0) = _
    unfold eI; rw [List.map_replicate]
  rw [e1, e2] at lp
  obtain ⟨_, l2, _, _⟩ := wV n h1 hn
  have ix := dE (h := h) (ns := (NR n).2) (i := (k : Int)) (j := k) rfl (by omega)
  have z1 : (1 : Int) <= n /\ (n : Int) <= 20 := by omega
  have z2 : (0 : Int) <= k /\ (k : Int) <= 20 := by omega
  have n1 := eG (h := h) z1
  have n2 := eG (h := h) z2
  have rp : (List.replicate 20 [D.int 0]).flatten = List.replicate 20 (D.int 0) := rfl
  have rp1 : (List.replicate 21 [D.int 0]).flatten = List.replicate 21 (D.int 0) := rfl
  have z3 : ((n : Int) + 1).natAbs <= 1000000 := by omega
  have z4 : ((n : Int) + 1 - 2).toNat = n - 1 := by omega
  have z5 : n - 1 <= 1000000 := by omega
  have l20 : (List.replicate 20 (D.int 0)).length = 20 := by simp
  generalize (NR n).1 = A1 at *
  generalize (NR n).2 = A2 at *
  unfold eI at lp
  generalize hR1 : List.replicate 20 (D.int 0) = R1 at *
  generalize hR2 : List.replicate 21 (D.int 0) = R2 at *
  generalize A2.map D.int = W at *
  generalize A1.map D.int = W1 at *
  have r3 : List.replicate 3 (none : Option D) = [none, none, none] := rfl
  simp [-List.reduceReplicate, r3, cV, bz, n1, n2, rp, rp1, hR1, hR2, l20, z3, z4, z5, lp, ix]
noncomputable def B0 : MS := (aG (bC 2 (ah cG (aa (ag 1) ak))) (aG (bC 3 (ao (bB aC) (cC (.int 1)) (ah aM (aa (ag 2) (aa (cC (.int 20)) ak))))) (aG (bC 4 (ah cA (aa (ag 2) (aa (ag 3) ak)))) (aG (bC 5 (bP aC (dY gq (aa (ag 3) ak)) [4] (aI asB (ao dEq (ao dIx (ag 1) (ag 0)) (ag 0))) (ag 0))) (aG (dA (aI asB (ao dNe (ah (lA aC) (aa (ao (bB aC) (ao (bB aC) (ah cH (aa (ag 4) ak)) (ah bN (aa (ag 4) ak))) (ah bW (aa (ag 5) ak))) ak)) (ah (gf aC) (aa (ag 3) ak)))) (br (cC (.bl false))) bX) (aG (bC 6 (ah j3 (aa (ag 4) ak))) (aG (bC 7 (bP aC (dY gq (aa (ag 3) ak)) [6] (aI asB (ao dEq (ao dIx (ag 1) (ag 0)) (ah mR (aa (gu aC (ag 1) gk (iU (ao (bB aC) (ag 0) (cC (.int 1))))) ak)))) (ag 0))) (aG (dA (lJ (aI asB (ao (qD true) (ah bx (aa (ag 6) ak)) (cC (.bl true)))) (lJ (aI asB (ao dNe (ah bF (aa (ag 7) ak)) (ah bF (aa (ah cw (aa (ag 4) ak)) ak)))) (aI asB (ao dNe (ah cT (aa (ag 6) ak)) (ah bF (aa (ah bN (aa (ag 4) ak)) ak)))))) (br (cC (.bl false))) bX) (aG (dA (lJ (aI asB (ao dNe (ah bF (aa (ah cH (aa (ah j7 (aa (ag 4) ak)) ak)) ak)) (ah bF (aa (ah bN (aa (ag 4) ak)) ak)))) (aI asB (ao (qD true) (ah bx (aa (ah d8 (aa (ag 4) ak)) ak)) (cC (.bl true))))) (br (cC (.bl false))) bX) (aG (zL 3 8 (ah lW (aa (ao (bB aC) (cC (.int 1)) (ah aM (aa (ag 2) (aa (cC (.int 12)) ak)))) (aa (ah aM (aa (ag 2) (aa (cC (.int 12)) ak))) ak)))) (aG (dA (aI asB (ao dNe (ah nA (aa (bP aC (dY gq (aa (ao (bB aC) (ag 3) (cC (.int 1))) ak)) [3, 8] tt1 (ah bo (aa (ag 1) (aa (ag 0) (aa (ag 2) ak))))) ak)) (ah bI (aa (ag 3) (aa (ag 8) (aa (ah lW ak) ak)))))) (br (cC (.bl false))) bX) (aG (bC 9 (ah aM (aa (ag 2) (aa (ao (bB aC) (ag 3) (cC (.int 1))) ak)))) (aG (dA (aI asB (ao dNe (ah nA (aa (bP aC (dY gq (aa (ao (bB aC) (ag 3) (cC (.int 1))) ak)) [3, 9] tt1 (ah bo (aa (ag 1) (aa (ag 2) (aa (ag 0) ak))))) ak)) (ah cj (aa (ag 3) (aa (ag 9) ak))))) (br (cC (.bl false))) bX) (dA (aI asB (ao dGt (ah cV (aa (ag 3) (aa (ag 8) ak))) (ah bI (aa (ag 3) (aa (ag 8) (aa (ah lW ak) ak)))))) (br (cC (.bl false))) bX))))))))))))))
theorem AD : n_ = fun ds h => ((b8 10 (aG (eN (dH (ao (bB aC) (ah (fo aC) (aa (ah b_ (aa (ag 0) (aa (cC (.int 0)) ak))) ak)) (gu aC (ag 0) (iU (cC (.int 1))) (iU (cC (.int 4)))))) (gN 1) B0) (br (cC (.bl true))))) ds h).bind (cf h) := rfl
noncomputable def zN : Prop := ∀ (ns : List Int) (c : Int) (y2 y3 y4 y5 y6 y7 y8 y9 : Option D) (h : Hh), Wf h -> Ok (B0 [some (.scr (ns.map D.int)), some (.int c), y2, y3, y4, y5, y6, y7, y8, y9] h) fun fl h2 => ∃ z2 z3 z4 z5 z6 z7 z8 z9, fl = .nx [some (.scr (ns.map D.int)), some (.int c), z2, z3, z4, z5, z6, z7, z8, z9] /\ Wf h2
theorem E4 (step : zN) (ns : List Int) (hl : ns.length <= 63) : ∃ h, n_ [.scr (ns.map D.int)] [] = .ok (.bl true) h := by
  have key : Ok (ef (gN 1) B0 (((ns.headD 0) :: lB ns (some 1) (some 4)).map D.int) [some (.scr (ns.map D.int)), none, none, none, none, none, none, none, none, none] []) fun fl h2 => (∃ e, fl = .nx e) /\ Wf h2 := by
    refine sN D.int (fun e h => (∃ y1 y2 y3 y4 y5 y6 y7 y8 y9, e = [some (.scr (ns.map D.int)), y1, y2, y3, y4, y5, y6, y7, y8, y9]) /\ Wf h) _ _ _ ⟨⟨_, _, _, _, _, _, _, _, _, rfl⟩, Wf.nil⟩ (fun x e h _ ⟨⟨y1, y2, y3, y4, y5, y6, y7, y8, y9, e1⟩, w⟩ => ?_) (fun e h ⟨_, w⟩ => ⟨⟨_, rfl⟩, w⟩)
    subst e1
    simp only [C4, cm, List.set]
    refine (step ns x y2 y3 y4 y5 y6 y7 y8 y9 h w).mono fun fl h2 ⟨z2, z3, z4, z5, z6, z7, z8, z9, e2, w2⟩ => ?_
    subst e2
    exact ⟨⟨_, _, _, _, _, _, _, _, _, rfl⟩, w2⟩
  obtain ⟨fl, h2, e, ⟨e', rfl⟩, w⟩ := key
  have cl := B2 ns (some 1) (some 4)
  have c1 : 1 + (lB ns (some 1) (some 4)).length <= 1000000 := by omega
  have ex : cf [] (.bl true) h2 = .ok (.bl true) [] := by
    have := cX (h := []) (t := h2) (d := .bl true) Wf.nil rfl
    simpa using this
  refine ⟨[], ?_⟩
  have e2 : ef (gN 1) B0 (D.int (ns.headD 0) :: (lB ns (some 1) (some 4)).map D.int) [some (.scr (ns.map D.int)), none, none, none, none, none, none, none, none, none] [] = .ok (.nx e') h2 := e
  rw [AD]
  simp [bz, yo, c1, e2, ex, -List.headD_eq_head?_getD]
noncomputable def S2 : MS := (aG (zL 3 8 (ah lW (aa (ao (bB aC) (cC (.int 1)) (ah aM (aa (ag 2) (aa (cC (.int 12)) ak)))) (aa (ah aM (aa (ag 2) (aa (cC (.int 12)) ak))) ak)))) (aG (dA (aI asB (ao dNe (ah nA (aa (bP aC (dY gq (aa (ao (bB aC) (ag 3) (cC (.int 1))) ak)) [3, 8] tt1 (ah bo (aa (ag 1) (aa (ag 0) (aa (ag 2) ak))))) ak)) (ah bI (aa (ag 3) (aa (ag 8) (aa (ah lW ak) ak)))))) (br (cC (.bl false))) bX) (aG (bC 9 (ah aM (aa (ag 2) (aa (ao (bB aC) (ag 3) (cC (.int 1))) ak)))) (aG (dA (aI asB (ao dNe (ah nA (aa (bP aC (dY gq (aa (ao (bB aC) (ag 3) (cC (.int 1))) ak)) [3, 9] tt1 (ah bo (aa (ag 1) (aa (ag 2) (aa (ag 0) ak))))) ak)) (ah cj (aa (ag 3) (aa (ag 9) ak))))) (br (cC (.bl false))) bX) (dA (aI asB (ao dGt (ah cV (aa (ag 3) (aa (ag 8) ak))) (ah bI (aa (ag 3) (aa (ag 8) (aa (ah lW ak) ak)))))) (br (cC (.bl false))) bX)))))
noncomputable def S1 : MS := (aG (bC 5 (bP aC (dY gq (aa (ag 3) ak)) [4] (aI asB (ao dEq (ao dIx (ag 1) (ag 0)) (ag 0))) (ag 0))) (aG (dA (aI asB (ao dNe (ah (lA aC) (aa (ao (bB aC) (ao (bB aC) (ah cH (aa (ag 4) ak)) (ah bN (aa (ag 4) ak))) (ah bW (aa (ag 5) ak))) ak)) (ah (gf aC) (aa (ag 3) ak)))) (br (cC (.bl false))) bX) (aG (bC 6 (ah j3 (aa (ag 4) ak))) (aG (bC 7 (bP aC (dY gq (aa (ag 3) ak)) [6] (aI asB (ao dEq (ao dIx (ag 1) (ag 0)) (ah mR (aa (gu aC (ag 1) gk (iU (ao (bB aC) (ag 0) (cC (.int 1))))) ak)))) (ag 0))) (aG (dA (lJ (aI asB (ao (qD true) (ah bx (aa (ag 6) ak)) (cC (.bl true)))) (lJ (aI asB (ao dNe (ah bF (aa (ag 7) ak)) (ah bF (aa (ah cw (aa (ag 4) ak)) ak)))) (aI asB (ao dNe (ah cT (aa (ag 6) ak)) (ah bF (aa (ah bN (aa (ag 4) ak)) ak)))))) (br (cC (.bl false))) bX) (aG (dA (lJ (aI asB (ao dNe (ah bF (aa (ah cH (aa (ah j7 (aa (ag 4) ak)) ak)) ak)) (ah bF (aa (ah bN (aa (ag 4) ak)) ak)))) (aI asB (ao (qD true) (ah bx (aa (ah d8 (aa (ag 4) ak)) ak)) (cC (.bl true))))) (br (cC (.bl false))) bX) S2))))))
noncomputable def S0 : MS := (aG (bC 2 (ah cG (aa (ag 1) ak))) (aG (bC 3 (ao (bB aC) (cC (.int 1)) (ah aM (aa (ag 2) (aa (cC (.int 20)) ak))))) (aG (bC 4 (ah cA (aa (ag 2) (aa (ag 3) ak)))) S1)))
theorem Gu : B0 = S0 := rfl
theorem Cr {os : List Int} {i : Nat} (hi : i < os.length) : jc (os.take (i + 1)) = pmx os i := by
  have ln : (os.take (i + 1)).length = i + 1 := by simp; omega
  have g : ∀ k, k <= i -> gI (os.take (i + 1)) k = gI os k := fun k hk => by
    rw [bD (by omega), bD (by omega), List.getElem_take]
  refine Int.le_antisymm ?_ ?_
  · obtain ⟨k, hk, e⟩ := List.getElem_of_mem (max_mem (ns := os.take (i + 1)) (by omega))
    rw [<- e, <- bD hk, g k (by omega)]
    exact p6 os i k (by omega)
  · obtain ⟨k, hk, e⟩ := nP os i
    rw [<- e, <- g k hk]
    exact le_max (fT (by omega))
theorem neF {h : Hh} {xs : List Int} : dNe (.frl (xs.map D.int)) (.frl (xs.map D.int)) h = .ok (.bl false) h := by
  have : eqD eqN h (.frl (xs.map D.int)) (.frl (xs.map D.int)) = some true := by
    show (if (xs.map D.int).length = (xs.map D.int).length then eqL (eqD (10 + 1) h) (xs.map D.int) (xs.map D.int) else some false) = _
    rw [if_pos rfl, qS]; simp
  simp only [dNe, this]; rfl
theorem Iw {h : Hh} : qD true (.bl true) (.bl true) h = .ok (.bl false) h := rfl
theorem Gj {n : Nat} {xs : List Int} {d0 d1 d2 y5 y6 y7 y8 y9 : Option D} {h : Hh} (o : Ord n xs) (h1 : 1 <= n) (hn : n <= 20) (w : Wf h) : ∃ z5 z6 z7, S1 [d0, d1, d2, some (.int n), some (.tup (xs.map D.int)), y5, y6, y7, y8, y9] h = S2 [d0, d1, d2, some (.int n), some (.tup (xs.map D.int)), z5, z6, z7, y8, y9] h := by
  have hl := o.len
  have lo := n6 o
  have la := FN (h := h) o h1 hn w
  have li := xj o h1 hn w
  have dr := BJ o h1 hn w
  have ro := ud (h := h) o h1 hn
  have og := vp (h := h) lo h1 hn w
  have fm : cT [.tup ((cn n xs).map D.int)] h = .ok (.int (gh n xs).length) h := by
    have := v_ (h := h) lo h1 hn w
    have fd := uI lo (BO o)
    rw [<- fd]
    simp [cT, bz, this]
  obtain ⟨P, pb, bk⟩ := Ef o h1 hn
  have bk := bk h
  have lb := xj (pb.ord o) h1 hn w
  have bl := vP o pb
  obtain ⟨Z, tz, tm⟩ := Dl (h := h) o h1 hn w
  have zg := vp (h := h) (D_ o (E7 o h1) tz) h1 hn w
  have ow : cO (aI asB (ao dEq (ao dIx (ag 1) (ag 0)) (ag 0))) (ag 0) (fun x => [some x, some (.tup (xs.map D.int))]) (bb 0 n) h = .ok ((lT n xs).map D.int) h := by
    rw [pf (fun (i : Nat) => decide (gI xs i = (i : Int))) (fun (i : Nat) => D.int i) (fun i hi => by
      have ix := dE (h := h) (ns := xs) (i := (i : Int)) (j := i) rfl (by omega)
      exact ⟨by simp [ix]; rw [Bool.eq_iff_iff]; simp, fun _ => by simp⟩), lT, List.map_map]
    rfl
  have tp : cO (aI asB (ao dEq (ao dIx (ag 1) (ag 0)) (ah mR (aa (gu aC (ag 1) gk (iU (ao (bB aC) (ag 0) (cC (.int 1))))) ak)))) (ag 0) (fun x => [some x, some (.tup ((cn n xs).map D.int))]) (bb 0 n) h = .ok (((List.range n).filter fun i => decide (gI (cn n xs) i = pmx (cn n xs) i)).map fun (i : Nat) => D.int i) h := by
    have ll := lo.len
    generalize cn n xs = os at *
    rw [pf (fun i => decide (gI os i = pmx os i)) (fun (i : Nat) => D.int i) (fun i hi => by
      have ix := dE (h := h) (ns := os) (i := (i : Int)) (j := i) rfl (by omega)
      have ct : lB os none (some ((i : Int) + 1)) = os.take (i + 1) := Ci os (i + 1)
      have cd : cutD (os.map D.int) none (some ((i : Int) + 1)) = (os.take (i + 1)).map D.int := by rw [n4, ct]
      have mx := FJ (ns := os.take (i + 1)) (h := h) (by simp; omega)
      rw [Cr (by omega)] at mx
      exact ⟨by simp [-List.map_take, ix, cd, mx]; rw [Bool.eq_iff_iff]; simp, fun _ => by simp⟩)]
  have rc := CA lo (t6 o)
  have so : lA aC [.tup ((jP n xs).map D.int ++ (gh n xs).map D.int ++ (lT n xs).map D.int)] h = .ok (.frl (bb 0 n)) h := by
    have fl : ∀ f : Nat -> Bool, (((List.range n).filter f).map fun (i : Nat) => (i : Int)).length <= 20 := fun f => by
      rw [List.length_map]
      have := List.length_filter_le f (List.range n)
      rw [List.length_range] at this; omega
    have a1 := fl fun (i : Nat) => decide ((i : Int) < gI xs i)
    have a2 := fl fun (i : Nat) => decide (gI xs i < (i : Int))
    have a3 := fl fun (i : Nat) => decide (gI xs i = (i : Int))
    rw [<- List.map_append, <- List.map_append, Cc, if_pos (by rw [List.length_append, List.length_append]; show (jP n xs).length + (gh n xs).length + (lT n xs).length < 64; unfold jP gh lT; omega), xG, sV]; rfl
  have nf : dNe (.frl (bb 0 n)) (.frl (bb 0 n)) h = .ok (.bl false) h := by rw [sV]; exact neF
  have z1 : n <= 1000000 := by omega
  have fl : ∀ f : Nat -> Bool, (((List.range n).filter f).map fun (i : Nat) => (i : Int)).length <= 20 := fun f => by
    rw [List.length_map]
    have := List.length_filter_le f (List.range n)
    rw [List.length_range] at this; omega
  have b1 : (jP n xs).length <= 20 := fl _
  have b2 : (gh n xs).length <= 20 := fl _
  have b3 : (lT n xs).length <= 20 := fl _
  have c1 : ((jP n xs).map D.int).length = (jP n xs).length := by simp
  have c2 : ((gh n xs).map D.int).length = (gh n xs).length := by simp
  have c3 : ((lT n xs).map D.int).length = (lT n xs).length := by simp
  have c4 : ((ft n xs).map tpI).length = (ft n xs).length := by simp
  have c5 : (((List.range n).filter fun i => decide (gI (cn n xs) i = pmx (cn n xs) i)).map fun (i : Nat) => D.int i).length = (ft n xs).length := by rw [List.length_map]; exact rc
  have c6 : ((jP n P).map D.int).length = (gh n xs).length := by rw [List.length_map]; exact bl
  have z2 : (jP n xs).length + (gh n xs).length <= 1000000 := by omega
  have z3 : (jP n xs).length + (gh n xs).length + (lT n xs).length <= 1000000 := by omega
  refine ⟨some (.frl ((lT n xs).map D.int)), some (.tup ((cn n xs).map D.int)), some (.frl (((List.range n).filter fun i => decide (gI (cn n xs) i = pmx (cn n xs) i)).map fun (i : Nat) => D.int i)), ?_⟩
  generalize (((List.range n).filter fun i => decide (gI (cn n xs) i = pmx (cn n xs) i)).map fun (i : Nat) => D.int i) = TP at *
  generalize (lT n xs).map D.int = OW at *
  generalize (jP n xs).map D.int = LI at *
  generalize (jP n P).map D.int = LP at *
  generalize (gh n xs).map D.int = DR at *
  generalize (cn n xs).map D.int = LA at *
  generalize (ft n xs).map tpI = RN at *
  generalize P.map D.int = PD at *
  generalize Z.map D.int = ZD at *
  generalize xs.map D.int = XS at *
  generalize hI : bb 0 n = IN at *
  have il : IN.length = n := by rw [<- hI]; simp
  simp [-List.append_assoc, S1, hI, il, z1, ow, li, dr, c1, c2, c3, z2, z3, so, nf, la, tp, og, Iw, c5, ro, c4, fm, bk, lb, c6, tm, zg]
theorem CJ {n k : Nat} {h : Hh} (h1 : 1 <= n) (hn : n <= 12) (hk : k < 12) : cO tt1 (ah bo (aa (ag 1) (aa (ag 0) (aa (ag 2) ak)))) (fun x => [some x, some (.int n), some (.int k)]) (bb 0 (n + 1)) h = .ok (((List.range (n + 1)).map fun r => bcI n r k).map D.int) h := by
  rw [eU (fun r => D.int (bcI n r k)) (fun r hr => by
    have := vc (n := n) (r := r) (k := k) (h := h) h1 hn (by omega) (by omega)
    simp [this]), List.map_map]
  rfl
theorem Ct {n r : Nat} {h : Hh} (h1 : 1 <= n) (hn : n <= 12) (hr : r <= n) : cO tt1 (ah bo (aa (ag 1) (aa (ag 2) (aa (ag 0) ak)))) (fun x => [some x, some (.int n), some (.int r)]) (bb 0 (n + 1)) h = .ok (((BT n n).getD r []).map D.int) h := by
  rw [eU (fun k => D.int (bcI n r k)) (fun k hk => by
    have := vc (n := n) (r := r) (k := k) (h := h) h1 hn (by omega) (by omega)
    simp [this]), <- Dp hr, List.map_map]
  rfl
theorem CT : zN := by
  intro ns c y2 y3 y4 y5 y6 y7 y8 y9 h w
  obtain ⟨a, ea, ha⟩ := wZ (xo c) 20 (by decide)
  obtain ⟨n, hn⟩ : ∃ n : Nat, 1 + (a : Int) = n := ⟨1 + a, by omega⟩
  have h1 : 1 <= n := by omega
  have h2 : n <= 20 := by omega
  generalize hP1 : fV (xo c) 20 = P1 at *
  have o := Ag P1 n
  have eo := yZ (p := P1) (k := n) w (by omega)
  generalize nh P1 n = xs at o eo
  generalize oV P1 n = P2 at eo
  obtain ⟨a2, ea2, ha2⟩ := wZ P2 12 (by decide)
  obtain ⟨k, ek, hk⟩ := wZ (fV P2 12) 12 (by decide)
  obtain ⟨n2, hn2⟩ : ∃ n : Nat, 1 + (a2 : Int) = n := ⟨1 + a2, by omega⟩
  have m1 : 1 <= n2 := by omega
  have m2 : n2 <= 12 := by omega
  have hk : k < 12 := by omega
  generalize hP3 : fV (fV P2 12) 12 = P3 at *
  obtain ⟨r, er, hr⟩ := wZ P3 (n2 + 1) (by omega)
  generalize hP4 : fV P3 ((n2 : Int) + 1) = P4 at *
  have er' := er
  have hr : r <= n2 := by omega
  have wf2 := sT w P2
  have wf3 := sT w P3
  have wf4 := sT w P4
  obtain ⟨z5, z6, z7, s1⟩ := Gj (d0 := some (.scr (ns.map D.int))) (d1 := some (.int c)) (d2 := some (.ref h.length)) (y5 := y5) (y6 := y6) (y7 := y7) (y8 := y8) (y9 := y9) (h := h ++ [.lst (cD P2)]) o h1 h2 wf2
  have D20 := fun (p : Pen) => rZ (p := p) (m := 20) (h := h) (t := []) (by decide)
  have D12 := fun (p : Pen) => rZ (p := p) (m := 12) (h := h) (t := []) (by decide)
  have dn : 0 < (n2 : Int) + 1 /\ (n2 : Int) + 1 <= 10 ^ 20 := by omega
  have Dn := fun (p : Pen) => rZ (p := p) (m := (n2 : Int) + 1) (h := h) (t := []) dn
  have q1 := CJ (n := n2) (k := k) (h := h ++ [.lst (cD P3)]) m1 m2 hk
  have b1 := wM (n := n2) (k := k) (h := h ++ [.lst (cD P3)]) m1 m2 (by omega) wf3
  have b2 := wM (n := n2) (k := k) (h := h ++ [.lst (cD P4)]) m1 m2 (by omega) wf4
  have q2 := Ct (n := n2) (r := r) (h := h ++ [.lst (cD P4)]) m1 m2 hr
  have rc := AX (n := n2) (r := r) (h := h ++ [.lst (cD P4)]) m1 m2 hr
  have no := Fe (n := n2) (k := k) (h := h ++ [.lst (cD P4)]) m1 m2 (by omega)
  obtain ⟨k1, k2⟩ := HZ (n := n2) (k := k) m1 m2 hk
  have u1 := Ah (h := h ++ [.lst (cD P3)]) (ns := (List.range (n2 + 1)).map fun r => bcI n2 r k)
  rw [k1] at u1
  have u2 := Ah (h := h ++ [.lst (cD P4)]) (ns := (BT n2 n2).getD r [])
  have k3 : ¬ bmI n2 k < gI (NR n2).2 k := by omega
  have z1 : ((n2 : Int) + 1).natAbs <= 1000000 := by omega
  have z2 : ((n2 : Int) + 1).toNat = n2 + 1 := by omega
  have z3 : n2 + 1 <= 1000000 := by omega
  have l1 : ((BT n2 n2).getD r []).sum = ((BT n2 n2).getD r []).sum := rfl
  refine ⟨.nx [some (.scr (ns.map D.int)), some (.int c), some (.ref h.length), some (.int n2), some (.tup (xs.map D.int)), z5, z6, z7, some (.int k), some (.int r)], h ++ [.lst (cD P4)], ?_, some (.ref h.length), some (.int n2), some (.tup (xs.map D.int)), z5, z6, z7, some (.int k), some (.int r), rfl, wf4⟩
  generalize xs.map D.int = XS at *
  generalize ((List.range (n2 + 1)).map fun r => bcI n2 r k).map D.int = W1 at *
  generalize ((BT n2 n2).getD r []).sum = SU at *
  generalize ((BT n2 n2).getD r []).map D.int = W2 at *
  generalize bmI n2 k = BM at *
  generalize gI (NR n2).2 k = NO at *
  have s2 : S2 [some (.scr (ns.map D.int)), some (.int c), some (.ref h.length), some (.int n), some (.tup XS), z5, z6, z7, y8, y9] (h ++ [.lst (cD P2)]) = .ok (.nx [some (.scr (ns.map D.int)), some (.int c), some (.ref h.length), some (.int n2), some (.tup XS), z5, z6, z7, some (.int k), some (.int r)]) (h ++ [.lst (cD P4)]) := by
    simp [S2, D12, ea2, ek, hn2, hP3, z1, z2, z3, q1, u1, b1, Dn, er, hP4, q2, u2, rc, no, b2, k3]
  rw [Gu]
  simp [S0, D20, ea, hn, hP1, eo, s1, s2]
theorem FI (ns : List Int) (hl : ns.length <= 63) : ∃ h, n_ [.scr (ns.map D.int)] [] = .ok (.bl true) h := E4 CT ns hl
end FC
open PySem PySem.W PyProof.Rows
local macro_rules | `(tactic| o_head $H) => `(tactic| (refine holds_open (q := FC.Q) (loose := []) (Xt := (fun s => xlAt FC.Q [] s && recOk (RowW.records (OpenRow.toRowW (OpenLaw.row PySem.Challenge.rw_fallcounts_k65_whole_rounds))) s)) (XP := XL FC.Q []) (Yf := Hook.obs $H) (Ya := Hook.val $H) (YP := Hook.says $H) (N := 4148) (L2.FE.xV (by decide) (by kernel_rfl) (fun _ => by kernel_rfl) FC.GY FC.Gi (fun w os => by kernel_rfl)) (Hook.of $H) (Hook.keeps $H) (fun s e => xl_of s (Bool.and_eq_true_iff.mp e).1) XL.keeps (by rfl) (by rfl) (by rfl) (fun s e => recFacts_of (Bool.and_eq_true_iff.mp e).2) (by rfl) (by first | assumption | decide +kernel) (by decide +kernel) ⟨rfl, rfl, rfl, rfl, rfl, by decide +kernel⟩ ?hw ?hc))
set_option maxRecDepth 100000 in
set_option maxHeartbeats 0 in
theorem PySem.Challenge.cw_fallcounts_k65_whole_rounds_holds : PySem.Challenge.rw_fallcounts_k65_whole_rounds.Holds := by
  w_on; o_law; k_head; w_witness2
  k_fill
  refine FC.walk (l := PySem.Challenge.rw_fallcounts_k65_whole_rounds) rfl rfl (fun w h Y => by first | exact PySem.W.kIn_of Y | exact PySem.W.km_in_of Y) FC.FI ?F
  case F =>
    intro w mg fa h KX G hmg
    have T : FC.Text (L2.KOf KX) := by
      dsimp only [L2.KOf]
      refine' ⟨?fN, ?gr, ?jf, ?je, ?iJ, ?j_, ?jG, ?iE, ?fZ, ?ko, ?ki, ?iu, ?i7, ?vE, ?kq, ?kG, ?iq, ?vX, ?j6, ?fj, ?fh, ?jo, ?i8, ?fS, ?iw, ?eP, ?eX, ?d9, ?ik, ?gA, ?gw, ?kl, ?iI, ?fM, ?kx, ?iB, ?zF, ?vQ, ?jj, ?zi, ?iy, ?Bl, ?vL, ?zt, ?sZ, ?Ai, ?o6, ?z0, ?sj, ?Bi, ?dQ, ?bM, ?bL⟩
      (case fN => refine' L2.FE.bj ?a ?l ?c ?k; (case a => k_is); (case l => k_is); (case c => k_is); (case k => k_is))
      (case gr => refine' L2.FE.bj ?a ?l ?c ?k; (case a => k_is); (case l => k_is); (case c => k_is); (case k => k_is))
      (case jf => refine' L2.FE.bj ?a ?l ?c ?k; (case a => k_is); (case l => k_is); (case c => k_is); (case k => k_is))
      (case je => refine' L2.FE.bj ?a ?l ?c ?k; (case a => k_is); (case l => k_is); (case c => k_is); (case k => k_is))
      (case iJ => refine' L2.FE.bj ?a ?l ?c ?k; (case a => k_is); (case l => k_is); (case c => k_is); (case k => k_is))
      (case j_ => refine' L2.FE.bj ?a ?l ?c ?k; (case a => k_is); (case l => k_is); (case c => k_is); (case k => k_is))
      (case jG => refine' L2.FE.bj ?a ?l ?c ?k; (case a => k_is); (case l => k_is); (case c => k_is); (case k => k_is))
      (case iE => refine' L2.FE.bj ?a ?l ?c ?k; (case a => k_is); (case l => k_is); (case c => k_is); (case k => k_is))
      (case fZ => refine' L2.FE.bj ?a ?l ?c ?k; (case a => k_is); (case l => k_is); (case c => k_is); (case k => k_is))
      (case ko => refine' L2.FE.bj ?a ?l ?c ?k; (case a => k_is); (case l => k_is); (case c => k_is); (case k => k_is))
      (case ki => refine' L2.FE.bj ?a ?l ?c ?k; (case a => k_is); (case l => k_is); (case c => k_is); (case k => k_is))
      (case iu => refine' L2.FE.bj ?a ?l ?c ?k; (case a => k_is); (case l => k_is); (case c => k_is); (case k => k_is))
      (case i7 => refine' L2.FE.bj ?a ?l ?c ?k; (case a => k_is); (case l => k_is); (case c => k_is); (case k => k_is))
      (case vE => refine' L2.FE.bj ?a ?l ?c ?k; (case a => k_is); (case l => k_is); (case c => k_is); (case k => k_is))
      (case kq => refine' L2.FE.bj ?a ?l ?c ?k; (case a => k_is); (case l => k_is); (case c => k_is); (case k => k_is))
      (case kG => refine' L2.FE.bj ?a ?l ?c ?k; (case a => k_is); (case l => k_is); (case c => k_is); (case k => k_is))
      (case iq => refine' L2.FE.bj ?a ?l ?c ?k; (case a => k_is); (case l => k_is); (case c => k_is); (case k => k_is))
      (case vX => refine' L2.FE.bj ?a ?l ?c ?k; (case a => k_is); (case l => k_is); (case c => k_is); (case k => k_is))
      (case j6 => refine' L2.FE.bj ?a ?l ?c ?k; (case a => k_is); (case l => k_is); (case c => k_is); (case k => k_is))
      (case fj => refine' L2.FE.bj ?a ?l ?c ?k; (case a => k_is); (case l => k_is); (case c => k_is); (case k => k_is))
      (case fh => refine' L2.FE.bj ?a ?l ?c ?k; (case a => k_is); (case l => k_is); (case c => k_is); (case k => k_is))
      (case jo => refine' L2.FE.bj ?a ?l ?c ?k; (case a => k_is); (case l => k_is); (case c => k_is); (case k => k_is))
      (case i8 => refine' L2.FE.bj ?a ?l ?c ?k; (case a => k_is); (case l => k_is); (case c => k_is); (case k => k_is))
      (case fS => refine' L2.FE.bj ?a ?l ?c ?k; (case a => k_is); (case l => k_is); (case c => k_is); (case k => k_is))
      (case iw => refine' L2.FE.bj ?a ?l ?c ?k; (case a => k_is); (case l => k_is); (case c => k_is); (case k => k_is))
      (case eP => refine' L2.FE.bj ?a ?l ?c ?k; (case a => k_is); (case l => k_is); (case c => k_is); (case k => k_is))
      (case eX => refine' L2.FE.bj ?a ?l ?c ?k; (case a => k_is); (case l => k_is); (case c => k_is); (case k => k_is))
      (case d9 => refine' L2.FE.bj ?a ?l ?c ?k; (case a => k_is); (case l => k_is); (case c => k_is); (case k => k_is))
      (case ik => refine' L2.FE.bj ?a ?l ?c ?k; (case a => k_is); (case l => k_is); (case c => k_is); (case k => k_is))
      (case gA => refine' L2.FE.bj ?a ?l ?c ?k; (case a => k_is); (case l => k_is); (case c => k_is); (case k => k_is))
      (case gw => refine' L2.FE.bj ?a ?l ?c ?k; (case a => k_is); (case l => k_is); (case c => k_is); (case k => k_is))
      (case kl => refine' L2.FE.bj ?a ?l ?c ?k; (case a => k_is); (case l => k_is); (case c => k_is); (case k => k_is))
      (case iI => refine' L2.FE.bj ?a ?l ?c ?k; (case a => k_is); (case l => k_is); (case c => k_is); (case k => k_is))
      (case fM => refine' L2.FE.bj ?a ?l ?c ?k; (case a => k_is); (case l => k_is); (case c => k_is); (case k => k_is))
      (case kx => refine' L2.FE.bj ?a ?l ?c ?k; (case a => k_is); (case l => k_is); (case c => k_is); (case k => k_is))
      (case iB => refine' L2.FE.bj ?a ?l ?c ?k; (case a => k_is); (case l => k_is); (case c => k_is); (case k => k_is))
      (case zF => refine' L2.FE.bj ?a ?l ?c ?k; (case a => k_is); (case l => k_is); (case c => k_is); (case k => k_is))
      (case vQ => k_is)
      (case jj => k_is)
      (case zi => k_is)
      (case iy => k_is)
      (case Bl => k_is)
      (case vL => k_is)
      (case zt => k_is)
      (case sZ => k_is)
      (case Ai => k_is)
      (case o6 => k_is)
      (case z0 => k_is)
      (case sj => k_is)
      (case Bi => k_is)
      (case dQ => exact ⟨_, rfl⟩)
      (case bM => exact ⟨_, rfl⟩)
      (case bL => exact ⟨_, rfl⟩)
    exact FC.all_mk KX G hmg T
