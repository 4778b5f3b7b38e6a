import PyProof.Rows.All
import Wide.All
import OpenK.AllK
import Wide.FinOn
import Lean
import KE.KNestM
import PyProof.EqAt
import PyProof.EqKinds
import PyProof.TupleCall
import PyProof.EnumMake
import PyProof.Draws
import KE.KDictList
import KE.KTryMore
import KE.KEqDict
import PyProof.ExcInit
import PyProof.InstStoreFacts
import KE.KSortTup
import PySem.Challenge.RW_fallcounts_k46_whole_powers
set_option Elab.async false
set_option linter.all false
set_option maxRecDepth 100000
set_option maxHeartbeats 8000000
namespace L2.FE
open PySem PySem.W PySem.Calls
noncomputable def yd : List Obj -> BT -> Nat -> Option BT
  | [], t, _ => some t
  | o :: r, t, n => match ((t.ins n o).get n).isSome with
    | true => yd r (t.ins n o) (n + 1)
    | false => none
theorem p5 {life : Life} : ∀ {r : List Obj} {t T : BT} {n : Nat} {a : Array Obj}, yd r t n = some T -> absHeap t n life = ⟨a, life⟩ -> absHeap T (n + r.length) life = ⟨a ++ r.toArray, life⟩
  | [], t, T, n, a, h, e => by cases h; simpa using e
  | o :: r, t, T, n, a, h, e => by
    unfold yd at h
    cases g : ((t.ins n o).get n).isSome with
    | false => rw [g] at h; cases h
    | true =>
      rw [g] at h
      have x : absHeap (t.ins n o) (n + 1) life = ⟨a.push o, life⟩ := by rw [absHeap_ins g, e]; rfl
      have := p5 h x
      rw [List.length_cons, show n + (r.length + 1) = n + 1 + r.length by omega, this]
      simp
noncomputable def sH (p : Program) (w : World) (n₀ : Nat) (ann : Option Value) : Nat -> SharedT -> Thread -> Option SharedT
  | 0, _, _ => none
  | n + 1, s, t => match through t with
    | true => some s
    | false => match PySem.W.Fast.tw6613529449190102663 n₀ ann t with
      | false => none
      | true => match PySem.W.Fast.tw10156331382660048174 (PySem.W.Fast.tw11892475500146522536 PySem.W.Fast.tw14364793385576792824) p w s t with
        | some (s', t') => sH p w n₀ ann n s' t'
        | none => none
theorem qA {p : Program} {w : World} {n₀ : Nat} {ann : Option Value} : ∀ {n : Nat} {s r : SharedT} {t : Thread}, sH p w n₀ ann n s t = some r -> topRun treeTable p w n₀ ann n s.abs t = some r.abs
  | 0, _, _, _, h => by cases h
  | n + 1, s, r, t, h => by
    unfold sH at h
    unfold topRun
    cases ht : through t with
    | true => rw [ht] at h; cases h; rfl
    | false =>
      rw [ht, <- PySem.W.Fast.te6613529449190102663] at h
      cases hk : stepOk n₀ ann t with
      | false => simp only [hk] at h; cases h
      | true =>
        simp only [hk] at h
        rw [<- PySem.W.Fast.te10156331382660048174, <- PySem.W.Fast.te11892475500146522536, <- PySem.W.Fast.te14364793385576792824] at h
        cases hs : stepT (denote treeTable) p w s t with
        | none => rw [hs] at h; cases h
        | some x => obtain ⟨s₂, t₂⟩ := x; rw [hs] at h; rw [stepT_spec hs]; exact qA h
noncomputable def nA (p : Program) (w : World) (N : Nat) (os : OsState) : Option SharedT :=
  match (boot_heap w.params).isNs mainGlobals with
  | true => (yd (boot_heap w.params).objs.toList .nil 0).bind fun T => sH p w (boot_heap w.params).objs.size ((boot_heap w.params).nsMap mainGlobals (Str.ofString "__annotations__")) N ⟨T, (boot_heap w.params).objs.size, (boot_heap w.params).life, #[], boot_drawn, boot_toks, os⟩ (topStub p)
  | false => none
noncomputable def w8 (p : Program) (w : World) (s₁ : Shared) : Bool := staticsOk (PySem.W.Fast.tw5923862056798008813 p.main.body) (boot_heap w.params) s₁.heap && namesBound p s₁.heap && gensDone s₁ && laidKept (boot_heap w.params) s₁.heap
theorem ud {p q : Program} {loose : List Str} {Xt : Shared -> Bool} {α : Type} {Yf : Shared -> α} {Ya : World -> α} {N : Nat} (hN : Nat.ble 600 N = true) (e : opening p = plainProg p.main.scope.names) (f : ∀ s, fenceModules? p s = some s)
    (h1 : ∀ (w : World) (os : OsState), (nA p w N os).map (fun s => w8 p w s.abs) = some true)
    (h2 : ∀ (w : World) (os : OsState), (nA p w N os).map (fun s => PySem.W.Fast.tw4187177175401517315 q loose (PySem.W.Fast.tw5923862056798008813 p.main.body) Xt true s.abs) = some (openGood q loose))
    (h3 : ∀ (w : World) (os : OsState), (nA p w N os).map (fun s => Yf s.abs) = some (Ya w)) : LeftO p q loose Xt Yf Ya N := fun w => by
  obtain ⟨s, hs, e'⟩ := Option.map_eq_some_iff.mp (boot_open e hN f w)
  obtain ⟨H, gs, d, k, os⟩ := s
  obtain ⟨rfl, rfl, rfl, rfl⟩ : H = boot_heap w.params /\ gs = _ /\ d = boot_drawn /\ k = boot_toks := by simpa using e'
  obtain ⟨r, hr, l1⟩ := Option.map_eq_some_iff.mp (h1 w os)
  obtain ⟨r2, hr2, l2⟩ := Option.map_eq_some_iff.mp (h2 w os)
  obtain ⟨r3, hr3, l3⟩ := Option.map_eq_some_iff.mp (h3 w os)
  obtain rfl : r = r2 := Option.some.inj (hr.symm.trans hr2)
  obtain rfl : r = r3 := Option.some.inj (hr.symm.trans hr3)
  unfold w8 at l1
  rw [<- PySem.W.Fast.te5923862056798008813] at l1
  rw [<- PySem.W.Fast.te4187177175401517315, <- PySem.W.Fast.te5923862056798008813] at l2
  unfold nA at hr
  cases hn : (boot_heap w.params).isNs mainGlobals with
  | false => rw [hn] at hr; cases hr
  | true =>
    rw [hn] at hr
    obtain ⟨T, hT, hr⟩ := Option.bind_eq_some_iff.mp hr
    have z := p5 (life := (boot_heap w.params).life) (n := 0) (a := #[]) hT rfl
    have z' : absHeap T (boot_heap w.params).objs.size (boot_heap w.params).life = boot_heap w.params := by
      rw [Nat.zero_add, Array.length_toList] at z
      rw [z]
      simp
    have hr := qA hr
    have st : (SharedT.mk T (boot_heap w.params).objs.size (boot_heap w.params).life #[] boot_drawn boot_toks os).abs = ⟨boot_heap w.params, #[], boot_drawn, boot_toks, os⟩ := by
      show Shared.mk _ _ _ _ _ = _
      rw [z']
    rw [st] at hr
    unfold openEnds
    rw [hs]
    show Option.map _ (topFrom treeTable p w N _) = _
    have t : topFrom treeTable p w N ⟨boot_heap w.params, #[], boot_drawn, boot_toks, os⟩ = some r.abs := by
      unfold topFrom
      dsimp only
      rw [hn]
      rw [hr]
      show (match staticsOk (importedModules p.main.body) (boot_heap w.params) r.abs.heap && namesBound p r.abs.heap && gensDone r.abs && laidKept (boot_heap w.params) r.abs.heap with | true => _ | false => _) = _
      rw [l1]
    rw [t]
    show some (openSeen q loose (importedModules p.main.body) Xt true r.abs, Yf r.abs) = _
    rw [l2, l3]
noncomputable def viewOf (p : Program) (keep : List Nat) : Program := { p with main := { p.main with body := keep.filterMap fun i => p.main.body[i]? } }
end L2.FE
section
open PySem PySem.W PyProof.Rows
noncomputable def FC.Q : Program := L2.FE.viewOf PySem.Challenge.pw_fallcounts_k46_whole_powers [1,2,3,4,6,7,8,9,11,12,13,14,15,16,18,19,20,22,23,24,25,26,27,28,29,30,31,32,33,34,36,37,38,39,40,41]
theorem FC.Cc : ∀ (w : World) (os : OsState), (L2.FE.nA PySem.Challenge.pw_fallcounts_k46_whole_powers w 3520 os).map (fun s => L2.FE.w8 PySem.Challenge.pw_fallcounts_k46_whole_powers w s.abs) = some true := fun w os => by kernel_rfl
theorem FC.CS : ∀ (w : World) (os : OsState), (L2.FE.nA PySem.Challenge.pw_fallcounts_k46_whole_powers w 3520 os).map (fun s => PySem.W.Fast.tw4187177175401517315 FC.Q [] (PySem.W.Fast.tw5923862056798008813 PySem.Challenge.pw_fallcounts_k46_whole_powers.main.body) (fun s => xlAt FC.Q [] s && recOk (RowW.records (OpenRow.toRowW (OpenLaw.row PySem.Challenge.rw_fallcounts_k46_whole_powers))) s) true s.abs) = some (openGood FC.Q []) := fun w os => by kernel_rfl
end
namespace L2
open PySem PySem.Spec PyProof.Rows
noncomputable abbrev Key := Sum Int Str
noncomputable def nN : Key -> Value -> Bool
  | .inl k, v => Value.isInt k v
  | .inr x, v => Value.isStrOf x v
noncomputable def Es (w : World) : Key -> Int
  | .inl k => hashInt k
  | .inr x => hashStr w x
theorem bC : ∀ {k : Key} {v : Value}, nN k v = true -> (∃ i t, k = Sum.inl i /\ v = Value.int i t) \/ (∃ x t, k = Sum.inr x /\ v = Value.str x t)
  | .inl i, v, h => by
    obtain ⟨t, e⟩ := Value.isInt_shape (k := i) (v := v) h
    exact .inl ⟨i, t, rfl, e⟩
  | .inr x, v, h => by
    obtain ⟨t, e⟩ := Value.isStrOf_shape (x := x) (v := v) h
    exact .inr ⟨x, t, rfl, e⟩
theorem uM (i : Int) (t : Tok) : nN (.inl i) (.int i t) = true := by simp [nN, Value.isInt]
theorem tX (x : Str) (t : Tok) : nN (.inr x) (.str x t) = true := by simp [nN, Value.isStrOf]
theorem AO (a b : Int) : decide ((Sum.inl a : Key) = Sum.inl b) = (a == b) := by
  by_cases e : a = b
  · subst e; simp
  · have h : ¬ (Sum.inl a : Key) = Sum.inl b := fun q => e (Sum.inl.inj q)
    rw [decide_eq_false h]
    exact (beq_eq_false_iff_ne.mpr e).symm
theorem A7 (a b : Str) : decide ((Sum.inr a : Key) = Sum.inr b) = decide (a = b) := by
  by_cases e : a = b
  · subst e; simp
  · have h : ¬ (Sum.inr a : Key) = Sum.inr b := fun q => e (Sum.inr.inj q)
    rw [decide_eq_false h, decide_eq_false e]
theorem Bd (a : Int) (b : Str) : decide ((Sum.inl a : Key) = Sum.inr b) = false := decide_eq_false (fun q => nomatch q)
theorem AN (a : Str) (b : Int) : decide ((Sum.inr a : Key) = Sum.inl b) = false := decide_eq_false (fun q => nomatch q)
noncomputable def bJ (prog : Program) (w : World) : PySem.KeyKind prog w Key where
  is := nN
  hash := Es w
  inj := fun v a b ha hb => by
    rcases bC ha with ⟨i, t, rfl, rfl⟩ | ⟨x, t, rfl, rfl⟩
    · rcases bC hb with ⟨j, u, rfl, e⟩ | ⟨y, u, rfl, e⟩
      · injection e with e1 _; rw [e1]
      · exact nomatch e
    · rcases bC hb with ⟨j, u, rfl, e⟩ | ⟨y, u, rfl, e⟩
      · exact nomatch e
      · injection e with e1 _; rw [e1]
  byValue := fun k v h => by
    rcases bC h with ⟨i, t, rfl, rfl⟩ | ⟨x, t, rfl, rfl⟩ <;> rfl
  pyHash := fun hv h => by
    rcases bC hv with ⟨i, t, rfl, rfl⟩ | ⟨x, t, rfl, rfl⟩
    · exact wpAny_pyHash_int h
    · exact wpAny_pyHash_str h
  eqBool := fun hu hv h => by
    rcases bC hu with ⟨i, t, rfl, rfl⟩ | ⟨x, t, rfl, rfl⟩
    · rcases bC hv with ⟨j, u, rfl, rfl⟩ | ⟨y, u, rfl, rfl⟩
      · rw [AO] at h; exact wpAny_eqBool_int h
      · rw [Bd] at h; exact SeqAt.EqAt.int_str i t y u _ _ _ _ h
    · rcases bC hv with ⟨j, u, rfl, rfl⟩ | ⟨y, u, rfl, rfl⟩
      · rw [AN] at h; exact SeqAt.EqAt.str_int x t j u _ _ _ _ h
      · rw [A7] at h; exact wpAny_eqBool_str h
  «strs» := fun k x t v h => by
    rcases bC h with ⟨i, u, rfl, e⟩ | ⟨y, u, rfl, e⟩
    · exact nomatch e
    · injection e with e1 _
      subst e1
      cases v <;> rfl
theorem qO (prog : Program) (w : World) (i : Int) (t : Tok) : (bJ prog w).is (.inl i) (.int i t) = true := uM i t
theorem qd (prog : Program) (w : World) (x : Str) (t : Tok) : (bJ prog w).is (.inr x) (.str x t) = true := tX x t
inductive V where
  | non | bl (b : Bool) | int (i : Int) | str (x : Str) | byt (b : Array UInt8) | flt (b : UInt64) | ref (a : Addr) | ty (n : String)
  deriving DecidableEq
noncomputable def RelV : V -> Value -> Prop
  | .non, u => u = Value.none
  | .bl b, u => u = Value.bool b
  | .int i, u => ∃ t, u = Value.int i t
  | .str x, u => ∃ t, u = Value.str x t
  | .byt b, u => ∃ t, u = Value.bytes b t
  | .flt b, u => ∃ t, u = Value.float b t
  | .ref a, u => u = Value.ref a
  | .ty n, u => u = Value.type n
noncomputable abbrev Vals : List V -> List Value -> Prop := Paired RelV
theorem Vals.length {xs : List V} {us : List Value} (r : Vals xs us) : xs.length = us.length := Paired.length r
theorem Vals.get : ∀ {xs : List V} {us : List Value} {i : Nat} {x : V}, Vals xs us -> xs[i]? = some x -> ∃ u, us[i]? = some u /\ RelV x u
  | _, _, _, _, .nil, e => by simp at e
  | _, _, 0, _, .cons r _, e => by simp at e; subst e; exact ⟨_, rfl, r⟩
  | _, _, i + 1, x, .cons _ t, e => by
    obtain ⟨u, h1, h2⟩ := Vals.get (i := i) (x := x) t (by simpa using e)
    exact ⟨u, by simpa using h1, h2⟩
theorem Vals.set {x : V} {u : Value} (r : RelV x u) : ∀ {xs : List V} {us : List Value} (i : Nat), Vals xs us -> Vals (xs.set i x) (us.set i u)
  | _, _, _, .nil => .nil
  | _, _, 0, .cons _ t => .cons r t
  | _, _, i + 1, .cons q t => .cons q (Vals.set r i t)
theorem Vals.append : ∀ {xs ys : List V} {us ws : List Value}, Vals xs us -> Vals ys ws -> Vals (xs ++ ys) (us ++ ws)
  | _, _, _, _, .nil, s => s
  | _, _, _, _, .cons r t, s => .cons r (Vals.append t s)
theorem Vals.take : ∀ {xs : List V} {us : List Value} (n : Nat), Vals xs us -> Vals (xs.take n) (us.take n)
  | _, _, 0, _ => .nil
  | _, _, _ + 1, .nil => .nil
  | _, _, n + 1, .cons r t => .cons r (Vals.take n t)
theorem Vals.drop : ∀ {xs : List V} {us : List Value} (n : Nat), Vals xs us -> Vals (xs.drop n) (us.drop n)
  | _, _, 0, r => r
  | _, _, _ + 1, .nil => .nil
  | _, _, n + 1, .cons _ t => Vals.drop n t
noncomputable def jK : Option V -> Option Value -> Prop
  | some v, some u => RelV v u
  | none, none => True
  | _, _ => False
noncomputable def KV {κ : Type} : List (κ × V) -> List (κ × Value) -> Prop := Paired fun (p : κ × V) (q : κ × Value) => p.1 = q.1 /\ RelV p.2 q.2
noncomputable def kV : Key -> V
  | .inl i => .int i
  | .inr x => .str x
inductive HO where
  | lst (xs : List V)
  | tup (xs : List V)
  | dK (kvs : List (Key × V)) | dT (kvs : List (List Key × V))
  | set (S : Int -> Bool) (n : Nat)
  | ins (C dx : Addr) (fs : List (Str × V))
  | own (x : Addr)
  | xd (fs : List (Str × V))
  | met (f x : Addr)
  | rng (lo hi : Int)
  | frz (o : Obj) (u : HO)
  | tbl (ps : Array Value)
  | ext (φ : Heap -> Prop)
noncomputable abbrev Hp := Addr -> Option HO
noncomputable def upd (H : Hp) (a : Addr) (o : HO) : Hp := fun b => if b = a then some o else H b
theorem aR {H : Hp} {a : Addr} {o : HO} : upd H a o a = some o := by unfold upd; rw [if_pos rfl]
theorem aE {H : Hp} {a b : Addr} {o : HO} (h : b ≠ a) : upd H a o b = H b := by unfold upd; rw [if_neg h]
theorem Cr {H : Hp} {a b : Addr} {o u : HO} (h : H a = some o) (h' : H b = some u) (d : o ≠ u) : a ≠ b := by
  intro e; subst e; rw [h] at h'; exact d (Option.some.inj h')
theorem bD {H : Hp} {a b : Addr} {o : HO} (h : H a = some o) (h' : H b = none) : a ≠ b := by
  intro e; subst e; rw [h] at h'; cases h'
noncomputable def ju (h : Heap) (a : Addr) (its : Array Value) : Prop := ∃ o, h.get? a = some o /\ (o.cls = .type "tuple" /\ ∃ n, o.data = .seq its n) /\ o.dict = none
theorem ju.tup {h : Heap} {a : Addr} {its : Array Value} (x : ju h a its) : IsTup h a its := let ⟨o, e, ⟨c, n, d⟩, _⟩ := x; ⟨o, e, c, n, d⟩
theorem ju.new (h : Heap) (its : Array Value) : ju (h.push { cls := .type "tuple", data := .seq its }) h.objs.size its := ⟨_, Heap.get?_push_size _ rfl, ⟨rfl, _, rfl⟩, rfl⟩
section
variable (P : Program) (w : World)
noncomputable def bc (H : Hp) (h : Heap) (a : Addr) : HO -> Prop
  | .lst xs => xs.length <= sizeLine /\ ∃ (its : List Value) (n : Nat), Vals xs its /\ h.get? a = some { cls := .type "list", data := .seq its.toArray n }
  | .tup xs => xs.length <= sizeLine /\ ∃ its : List Value, Vals xs its /\ ju h a its.toArray
  | .dK kvs => kvs.length <= sizeLine /\ (a == sysModules) = false /\ ∃ vs, KV kvs vs /\ h.DictOf (bJ P w) a vs
  | .dT kvs => kvs.length <= sizeLine /\ (a == sysModules) = false /\ ∃ xs : List (List Key × Addr × Value),
      Paired (fun (p : List Key × V) (q : List Key × Addr × Value) => p.1 = q.1 /\ H q.2.1 = some (.tup (p.1.map kV)) /\ RelV p.2 q.2.2) kvs xs ∧
      ∃ o es ep, h.get? a = some o /\ o.ExactDict /\ o.data = .dict es ep /\ es.toList = xs.map (entryOfKey (tupleKind (bJ P w))) /\ (xs.map (·.1)).Nodup
  | .set S n => h.SetOf (intKind P w) a S n
  | .ins C dx fs => H dx = some (.own a) /\ fs.length <= 1000 /\ dx ≠ a /\ h.get? a = some (PySem.W.instObj C dx) ∧
      ∃ mA, h.Ns1 dx mA /\ (∀ f, jK (fs.lookup f) (mA f)) /\ PySem.Within mA (fs.map (·.1))
  | .own _ => ∃ o, h.get? a = some o
  | .xd fs => ∃ mA, h.Ns1 a mA /\ ∀ f, jK (fs.lookup f) (mA f)
  | .rng lo hi => ∃ t u v, h.get? a = some { cls := .type "range", data := .fields #[.int lo t, .int hi u, .int 1 v] }
  | .frz o u => h.get? a = some o /\ bc H h a u
  | .tbl ps => h.get? a = some { cls := .none, data := .fields ps }
  | .met f x => h.get? a = some (PySem.W.methodObj (.ref f) (.ref x))
  | .ext φ => φ h /\ (∃ o, h.get? a = some o) /\ ∀ h1 h2 : Heap, φ h1 -> (∀ o, h1.get? a = some o -> h2.get? a = some o) -> φ h2
noncomputable def HOk (H : Hp) (h : Heap) : Prop := ∀ a o, H a = some o -> bc P w H h a o
end
section
variable {P : Program} {w : World} {H H' : Hp} {h h' : Heap} {a : Addr} {o : HO}
theorem bc.lt (x : bc P w H h a o) : a < h.objs.size := by
  cases o with
  | lst xs => obtain ⟨_, _, _, _, e⟩ := x; exact Heap.lt_size e
  | tup xs => obtain ⟨_, _, _, _, e, _⟩ := x; exact Heap.lt_size e
  | dK kvs => obtain ⟨_, _, _, _, o, _, _, e, _⟩ := x; exact Heap.lt_size e
  | dT kvs => obtain ⟨_, _, _, _, o, _, _, e, _⟩ := x; exact Heap.lt_size e
  | set S n => obtain ⟨o, _, _, _, e, _⟩ := x; exact Heap.lt_size e
  | ins C dx fs => obtain ⟨_, _, _, e, _⟩ := x; exact Heap.lt_size e
  | own y => obtain ⟨_, e⟩ := x; exact Heap.lt_size e
  | xd fs => obtain ⟨_, ⟨_, _, _, e, _⟩, _⟩ := x; exact Heap.lt_size e
  | rng lo hi => obtain ⟨_, _, _, e⟩ := x; exact Heap.lt_size e
  | frz ob u => obtain ⟨e, _⟩ := x; exact Heap.lt_size e
  | tbl ps => exact Heap.lt_size (show h.get? a = some _ from x)
  | met f y => exact Heap.lt_size (show h.get? a = some _ from x)
  | ext φ => obtain ⟨_, ⟨_, e⟩, _⟩ := x; exact Heap.lt_size e
theorem Paired.vE {α β : Type} {F G : α -> β -> Prop} : ∀ {l₁ : List α} {l₂ : List β}, Paired F l₁ l₂ -> (∀ a b, F a b -> G a b) -> Paired G l₁ l₂
  | _, _, .nil, _ => .nil
  | _, _, .cons r t, f => .cons (f _ _ r) (Paired.vE t f)
theorem bc.mw (x : bc P w H h a o) (k : ∀ b u, (b = a \/ H b = some (.own a)) -> h.get? b = some u -> h'.get? b = some u)
    (ho : ∀ b, H b = some (.own a) -> H' b = some (.own a)) (ht : ∀ b xs, H b = some (.tup xs) -> H' b = some (.tup xs)) : bc P w H' h' a o := by
  induction o with
  | lst xs => obtain ⟨z, its, n, r, e⟩ := x; exact ⟨z, its, n, r, k _ _ (.inl rfl) e⟩
  | tup xs => obtain ⟨z, its, r, ob, e, c⟩ := x; exact ⟨z, its, r, ob, k _ _ (.inl rfl) e, c⟩
  | dK kvs => obtain ⟨z, y, vs, r, ob, es, ep, e, c⟩ := x; exact ⟨z, y, vs, r, ob, es, ep, k _ _ (.inl rfl) e, c⟩
  | dT kvs =>
    obtain ⟨z, y, xs, r, ob, es, ep, e, c⟩ := x
    exact ⟨z, y, xs, Paired.vE r fun p q z => ⟨z.1, ht _ _ z.2.1, z.2.2⟩, ob, es, ep, k _ _ (.inl rfl) e, c⟩
  | set S n => obtain ⟨ob, es, ep, t, e, c⟩ := x; exact ⟨ob, es, ep, t, k _ _ (.inl rfl) e, c⟩
  | ins C dx fs =>
    obtain ⟨d, z, ne, e, mA, ⟨od, es, ep, e2, c⟩, r⟩ := x
    exact ⟨ho _ d, z, ne, k _ _ (.inl rfl) e, mA, ⟨od, es, ep, k _ _ (.inr d) e2, c⟩, r⟩
  | own y => obtain ⟨ob, e⟩ := x; exact ⟨ob, k _ _ (.inl rfl) e⟩
  | xd fs => obtain ⟨mA, ⟨od, es, ep, e, c⟩, r⟩ := x; exact ⟨mA, ⟨od, es, ep, k _ _ (.inl rfl) e, c⟩, r⟩
  | rng lo hi => obtain ⟨t, u, v, e⟩ := x; exact ⟨t, u, v, k _ _ (.inl rfl) e⟩
  | frz ob u ih => obtain ⟨e, q⟩ := x; exact ⟨k _ _ (.inl rfl) e, ih q⟩
  | tbl ps =>
    have e : h.get? a = some { cls := .none, data := .fields ps } := x
    show h'.get? a = some { cls := .none, data := .fields ps }
    exact k a _ (.inl rfl) e
  | met f y =>
    have e : h.get? a = some (PySem.W.methodObj (.ref f) (.ref y)) := x
    show h'.get? a = some (PySem.W.methodObj (.ref f) (.ref y))
    exact k a _ (.inl rfl) e
  | ext φ => obtain ⟨p, ⟨o, e⟩, st⟩ := x; exact ⟨st _ _ p fun o q => k _ _ (.inl rfl) q, ⟨o, k _ _ (.inl rfl) e⟩, st⟩
theorem HOk.lt (x : HOk P w H h) (e : H a = some o) : a < h.objs.size := (x a o e).lt
theorem HOk.fresh (x : HOk P w H h) (e : h.objs.size <= a) : H a = none := by
  cases q : H a with
  | none => rfl
  | some u => exact absurd (Nat.lt_of_lt_of_le (x.lt q) e) (Nat.lt_irrefl _)
theorem HOk.kept (x : HOk P w H h) (k : ∀ b u, h.get? b = some u -> h'.get? b = some u) : HOk P w H h' := fun a o e =>
  (x a o e).mw (fun b u _ q => k b u q) (fun _ q => q) fun _ _ q => q
theorem HOk.laid (x : HOk P w H h) (k : ∀ b u, h.get? b = some u -> h'.get? b = some u) (hp : h.objs.size <= a) (new : bc P w (upd H a o) h' a o) : HOk P w (upd H a o) h' := fun b u e => by
  have hn := x.fresh hp
  by_cases hb : b = a
  · subst hb; rw [aR] at e; cases e; exact new
  · rw [aE hb] at e
    exact (x b u e).mw (fun c v _ q => k c v q) (fun c q => by rw [aE (bD q hn)]; exact q) fun c xs q => by rw [aE (bD q hn)]; exact q
end
noncomputable def Rd (H : Hp) (a : Addr) (u : HO) : Prop := H a = some u \/ ∃ o, H a = some (.frz o u)
theorem Rd.ok {P : Program} {w : World} {H : Hp} {h : Heap} {a : Addr} {u : HO} (r : Rd H a u) (x : HOk P w H h) : bc P w H h a u := by
  rcases r with r | ⟨o, r⟩
  · exact x a u r
  · obtain ⟨_, q⟩ := x a _ r
    exact q
noncomputable def Mut : Option HO -> Prop
  | some (.lst _) => True
  | some (.dK _) => True
  | some (.dT _) => True
  | some (.set _ _) => True
  | some (.ins _ _ _) => True
  | some (.ext _) => True
  | _ => False
section
variable {P : Program} {w : World} {H : Hp} {h h' : Heap} {x e : Addr} {o' : HO}
theorem HOk.write (ok : HOk P w H h) (mu : Mut (H x)) (he : e = x \/ H e = some (.own x)) (k : ∀ b u, b ≠ e -> h.get? b = some u -> h'.get? b = some u) (heo : ∃ u, h'.get? e = some u)
    (new : bc P w (upd H x o') h' x o') : HOk P w (upd H x o') h' := fun b u q => by
  have nown : ∀ c y, H c = some (.own y) -> c ≠ x := fun c y r z => by subst z; rw [r] at mu; exact mu
  have ntup : ∀ c xs, H c = some (.tup xs) -> c ≠ x := fun c xs r z => by subst z; rw [r] at mu; exact mu
  by_cases hb : b = x
  · subst hb; rw [aR] at q; cases q; exact new
  · rw [aE hb] at q
    by_cases hbe : b = e
    · have q' : H b = some (.own x) := by
        rcases he with z | z
        · exact absurd (hbe.trans z) hb
        · rw [hbe]; exact z
      rw [q] at q'; cases q'
      obtain ⟨v, hv⟩ := heo
      exact ⟨v, by rw [hbe]; exact hv⟩
    · refine (ok b u q).mw (fun c v hc r => k c v ?_ r) (fun c r => by rw [aE (nown c b r)]; exact r) fun c xs r => by rw [aE (ntup c xs r)]; exact r
      rcases hc with rfl | hc
      · exact hbe
      · rintro rfl
        rcases he with z | z
        · exact nown c b hc z
        · rw [hc] at z; cases z; exact hb rfl
end
structure Un (fs ex : List Addr) (H H' : Hp) (h h' : Heap) : Prop where
  keep : ∀ b o, h.get? b = some o -> H b = none -> b ∉ fs -> b ∉ ex -> h'.get? b = some o
  slot : ∀ b o, h.get? b = some o -> H b = none -> b ∈ fs -> b ∉ ex -> ∃ sl, h'.get? b = some { o with slots := sl }
  free : ∀ b o, h.get? b = some o -> H b = none -> b ∉ ex -> H' b = none
  there : ∀ b o, h.get? b = some o -> b ∉ ex -> ∃ o', h'.get? b = some o'
  lM : ∀ b xs, H b = some (.tup xs) -> H' b = some (.tup xs)
  mE : ∀ b o u, H b = some (.frz o u) -> H' b = some (.frz o u)
  oP : ∀ b ps, H b = some (.tbl ps) -> ∃ more, H' b = some (.tbl (ps ++ more))
section
variable {fs fs' ex ex' : List Addr} {H H1 H2 : Hp} {h h1 h2 h' : Heap} {a x e : Addr} {o : HO}
theorem Un.any (u : Un fs ex H H1 h h1) {b : Addr} {ob : Obj} (q : h.get? b = some ob) (n : H b = none) (hx : b ∉ ex) : ∃ sl, h1.get? b = some { ob with slots := sl } := by
  by_cases hb : b ∈ fs
  · exact u.slot b ob q n hb hx
  · exact ⟨ob.slots, u.keep b ob q n hb hx⟩
theorem Un.kept (k : ∀ b u, h.get? b = some u -> h'.get? b = some u) : Un fs ex H H h h' :=
  ⟨fun b ob q _ _ _ => k b ob q, fun b ob q _ _ _ => ⟨ob.slots, k b ob q⟩, fun _ _ _ n _ => n, fun b ob q _ => ⟨ob, k b ob q⟩, fun _ _ q => q, fun _ _ _ q => q, fun _ ps q => ⟨#[], by rw [q]; simp⟩⟩
theorem Un.refl : Un fs ex H H h h := Un.kept fun _ _ q => q
theorem Un.laid (k : ∀ b u, h.get? b = some u -> h'.get? b = some u) (hp : h.objs.size <= a) (hn : H a = none) : Un fs ex H (upd H a o) h h' where
  keep := fun b u q _ _ _ => k b u q
  slot := fun b u q _ _ _ => ⟨u.slots, k b u q⟩
  free := fun b u q n _ => by rw [aE (Nat.ne_of_lt (Nat.lt_of_lt_of_le (Heap.lt_size q) hp))]; exact n
  there := fun b u q _ => ⟨u, k b u q⟩
  lM := fun b xs q => by rw [aE (bD q hn)]; exact q
  mE := fun b u xs q => by rw [aE (bD q hn)]; exact q
  oP := fun b ps q => ⟨#[], by rw [aE (bD q hn), q]; simp⟩
theorem Un.write (mu : Mut (H x)) (he : e = x \/ H e = some (.own x)) (k : ∀ b u, b ≠ e -> h.get? b = some u -> h'.get? b = some u) (heo : ∃ u, h'.get? e = some u) : Un fs ex H (upd H x o) h h' := by
  have hx : ∀ b, H b = none -> b ≠ x := fun b n z => by subst z; rw [n] at mu; exact mu
  have hb : ∀ b, H b = none -> b ≠ e := fun b n z => by
    subst z
    rcases he with r | r
    · exact hx b n r
    · rw [n] at r; cases r
  have hm : ∀ b u, H b = some u -> ¬ Mut (some u) -> b ≠ x := fun b u q nm z => by subst z; rw [q] at mu; exact nm mu
  refine ⟨fun b u q n _ _ => k b u (hb b n) q, fun b u q n _ _ => ⟨u.slots, k b u (hb b n) q⟩, fun b u q n _ => by rw [aE (hx b n)]; exact n, fun b u q _ => ?_,
    fun b xs q => by rw [aE (hm b _ q fun z => z)]; exact q, fun b u xs q => by rw [aE (hm b _ q fun z => z)]; exact q, fun b ps q => ⟨#[], by rw [aE (hm b _ q fun z => z), q]; simp⟩⟩
  by_cases hbe : b = e
  · subst hbe; exact heo
  · exact ⟨u, k b u hbe q⟩
end
noncomputable def trk (h : Heap) (H : Hp) : List Addr := (List.range h.objs.size).filter fun a => (H a).isSome
noncomputable def n_ (h : Heap) (H : Hp) : Heap := PySem.W.hideAll h (trk h H)
theorem uL (h : Heap) (H : Hp) : (n_ h H).objs.size = h.objs.size := PySem.W.hideAll_size _ _
theorem vI {h : Heap} {H : Hp} {b : Addr} {o : Obj} (e : h.get? b = some o) (n : H b = none) : (n_ h H).get? b = some o :=
  PySem.W.hideAll_get _ e fun hm => by
    have q : (H b).isSome = true := (List.mem_filter.mp hm).2
    rw [n] at q; simp at q
theorem yU {h : Heap} {H : Hp} {b : Addr} {o : Obj} (e : (n_ h H).get? b = some o) : h.get? b = some o /\ H b = none := by
  have e' : h.get? b = some o := PySem.W.of_hideAll (trk h H) e
  refine ⟨e', ?_⟩
  cases q : H b with
  | none => rfl
  | some x =>
    have hm : b ∈ trk h H := List.mem_filter.mpr ⟨List.mem_range.mpr (Heap.lt_size e'), by simp [q]⟩
    have z : (n_ h H).get? b = none := PySem.W.hideAll_none (trk h H) hm
    rw [z] at e; cases e
structure Mod (K : PySem.W.Frag) (mg : Str -> Option Value) (base : Heap) : Prop where
  kin : K.In base
  glob : base.Ns mainGlobals mg
  blt : ∃ mb, base.Ns builtinsNs mb /\ ∀ x : Str, x ≠ "__name__" -> mb x = bootBuiltins x
  nolimit : base.NoLimit
structure Cx where
  prog : Program
  w : World
  K : PySem.W.Frag
  mg : Str -> Option Value
  base : Heap
  A : Around
  N : List Str
  aH : Shared
  aQ : Hp
  env : Env
  outer : List Env
  stack : List Env
  ex : List Addr
  fn : Str -> Bool
  calm : Bool
  pn : List (Addr × Obj)
  xe : Value -> Shared -> Prop
noncomputable def frs (l : List Env) : List Addr := l.filterMap (·.frame)
noncomputable abbrev Cx.fs (X : Cx) : List Addr := frs X.outer
noncomputable def Vis (sc : Scope) (x : Str) : Prop := sc.names.lookup x = some .local \/ sc.names.lookup x = some .cell \/ sc.names.lookup x = some .free
noncomputable def Loc (sc : Scope) (x : Str) : Prop := sc.names.lookup x = some .local \/ sc.names.lookup x = some .cell
noncomputable def Look (env : Env) (h : Heap) (m : Str -> Option Value) (x : Str) (u : Value) : Prop :=
  (env.kindOf x = some .local /\ m x = some u) \/ ((env.kindOf x = some .cell \/ env.kindOf x = some .free) /\ ∃ c, env.cells.lookup x = some c /\ h.IsCell c (some u))
structure Cx.Ok (X : Cx) : Prop where
  mod : Mod X.K X.mg X.base
  kind : X.env.scope.kind = .function
  glob : X.env.globals = mainGlobals
  blt : X.env.builtins = builtinsNs
  above : X.aH.heap.objs.size <= X.env.locals
  inj : ∀ x y c, X.env.cells.lookup x = some c -> X.env.cells.lookup y = some c -> x = y
  has : ∀ x, (X.env.kindOf x = some .cell \/ X.env.kindOf x = some .free) -> ∃ c, X.env.cells.lookup x = some c
  cab : ∀ x c, X.fn x = true -> X.env.cells.lookup x = some c -> X.aH.heap.objs.size <= c
  hd : X.calm = true -> X.A.handled = none
  frames : X.A.frames = some X.stack
  stk : X.stack = X.outer \/ (X.stack = X.env :: X.outer /\ X.env.frame = some X.env.locals)
  exf : ∀ b ∈ X.ex, b ≠ X.env.locals /\ ∀ x c, X.env.cells.lookup x = some c -> c ≠ b
  bs : ∀ b o, X.base.get? b = some o -> X.aH.heap.get? b = some o /\ X.aQ b = none
  bsz : X.base.objs.size <= X.aH.heap.objs.size
  xB : ∀ b o, X.base.get? b = some o -> b ∉ X.ex
  xO : ∀ b ∈ X.ex, b ∉ X.fs
  kL : X.aH.heap.FunFrames X.base X.outer
  frf : ∀ b ∈ X.fs, X.aQ b = none
structure Inv (X : Cx) (pins : List (Addr × Obj)) (σ : List (Option V)) (H : Hp) (s : Shared) : Prop where
  ok : X.Ok
  os : s.os = X.aH.os
  bare : AllBare s.gens
  base : Un X.fs X.ex X.aQ H X.aH.heap s.heap
  loc : ∃ m, s.heap.Ns X.env.locals m /\ ∀ (i : Nat) (x : Str) (v : V), X.N[i]? = some x -> σ[i]? = some (some v) -> Vis X.env.scope x -> ∃ u, RelV v u /\ Look X.env s.heap m x u
  cell : ∀ x c, X.env.cells.lookup x = some c -> ∃ v, s.heap.IsCell c v
  free : H X.env.locals = none
  iu : ∀ x c, X.env.cells.lookup x = some c -> H c = none
  pin : ∀ p ∈ X.pn ++ pins, s.heap.get? p.1 = some p.2 /\ H p.1 = none /\ p.1 ≠ X.env.locals /\ p.1 ∉ X.fs /\ ∀ v, p.2.data ≠ .cell v
  hok : HOk X.prog X.w H s.heap
  len : σ.length = X.N.length
section
variable {X : Cx} {pins : List (Addr × Obj)} {σ : List (Option V)} {H H' : Hp} {s : Shared} {h' : Heap}
theorem Cx.Ok.EA (ok : X.Ok) {b : Addr} {o : Obj} (e : X.base.get? b = some o) : b ∉ X.fs := fun hb => by
  have := (ok.kL.mem hb).1
  rw [e] at this; cases this
theorem Inv.bs (I : Inv X pins σ H s) : ∀ b o, X.base.get? b = some o -> s.heap.get? b = some o /\ H b = none := fun b o e =>
  ⟨I.base.keep b o (I.ok.bs b o e).1 (I.ok.bs b o e).2 (I.ok.EA e) (I.ok.xB b o e), I.base.free b o (I.ok.bs b o e).1 (I.ok.bs b o e).2 (I.ok.xB b o e)⟩
theorem Inv.bk (I : Inv X pins σ H s) : ∀ b o, X.base.get? b = some o -> s.heap.get? b = some o := fun b o e => (I.bs b o e).1
theorem Inv.mod (I : Inv X pins σ H s) : Mod X.K X.mg X.base := I.ok.mod
theorem Inv.kIn (I : Inv X pins σ H s) : X.K.In s.heap := I.ok.mod.kin.keeps I.bk
theorem Inv.lt (I : Inv X pins σ H s) : X.env.locals < s.heap.objs.size := let ⟨_, hn, _⟩ := I.loc; hn.lt
theorem Inv.sz (I : Inv X pins σ H s) : X.aH.heap.objs.size <= s.heap.objs.size := Nat.le_trans I.ok.above (Nat.le_of_lt I.lt)
theorem Inv.B6 (I : Inv X pins σ H s) {a : Addr} (h : s.heap.objs.size <= a) : a ∉ X.fs := fun hb => by
  obtain ⟨_, o, ho, _⟩ := I.ok.kL.mem hb
  exact absurd (Nat.lt_of_lt_of_le (Heap.lt_size ho) (Nat.le_trans I.sz h)) (Nat.lt_irrefl _)
theorem Inv.cne (I : Inv X pins σ H s) : ∀ x c, X.env.cells.lookup x = some c -> c ≠ X.env.locals := fun x c e z => by
  obtain ⟨v, o, ho, hd⟩ := I.cell x c e
  obtain ⟨m, ⟨o', es, ep, ho', hd', _⟩, _⟩ := I.loc
  rw [z, ho'] at ho; cases ho; rw [hd'] at hd; cases hd
theorem Inv.kL (I : Inv X pins σ H s) : s.heap.FunFrames X.base X.outer := by
  have all : ∀ (l : List Env), (∀ b ∈ frs l, b ∈ X.fs) -> X.aH.heap.FunFrames X.base l -> s.heap.FunFrames X.base l := by
    intro l
    induction l with
    | nil => intro _ _; trivial
    | cons env r ih =>
      intro hs hl
      obtain ⟨hk, ⟨L, o, hf, hn, ho, hd⟩, hr⟩ := hl
      have hL : L ∈ X.fs := hs L (by unfold frs; rw [List.filterMap_cons, hf]; exact List.mem_cons_self)
      obtain ⟨sl, e⟩ := I.base.slot L o ho (I.ok.frf L hL) hL fun z => I.ok.xO L z hL
      exact ⟨hk, ⟨L, _, hf, hn, e, hd⟩, ih (fun b hb => hs b (by unfold frs; rw [List.filterMap_cons, hf]; exact List.mem_cons_of_mem _ hb)) hr⟩
  exact all X.outer (fun _ hb => hb) I.ok.kL
theorem Inv.stack (I : Inv X pins σ H s) : s.heap.FunFrames X.base X.stack := by
  rcases I.ok.stk with e | ⟨e, hf⟩
  · rw [e]; exact I.kL
  · rw [e]
    obtain ⟨m, hn, _⟩ := I.loc
    refine .cons (by rw [I.ok.kind]; decide) hf hn ?_ I.kL
    exact Heap.get?_none_of_le (Nat.le_trans I.ok.bsz I.ok.above)
theorem Inv.oE (I : Inv X pins σ H s) : ∀ b ∈ frs X.stack, b ∈ X.env.locals :: X.fs := fun b hb => by
  rcases I.ok.stk with e | ⟨e, hf⟩
  · rw [e] at hb; exact List.mem_cons_of_mem _ hb
  · rw [e] at hb
    unfold frs at hb
    rw [List.filterMap_cons, hf] at hb
    exact hb
theorem Inv.sO (I : Inv X pins σ H s) : ∀ b ∈ frs X.stack, H b = none := fun b hb => by
  rcases List.mem_cons.mp (I.oE b hb) with e | hb
  · rw [e]; exact I.free
  · obtain ⟨_, o, ho, _⟩ := I.ok.kL.mem hb
    exact I.base.free b o ho (I.ok.frf b hb) fun z => I.ok.xO b z hb
theorem Inv.step {g' : Array GenState} {t' : Nat} {d' : Drawn} {ch : List Addr} (I : Inv X pins σ H s)
    (hch : ∀ b ∈ ch, (b ∈ X.ex \/ X.aH.heap.objs.size <= b) /\ b ≠ X.env.locals /\ (∀ x c, X.env.cells.lookup x = some c -> c ≠ b) /\ ∀ p ∈ X.pn ++ pins, p.1 ≠ b)
    (keep : ∀ b o, b ≠ X.env.locals -> b ∉ X.fs -> b ∉ ch -> s.heap.get? b = some o -> H b = none -> h'.get? b = some o)
    (slot : ∀ b o, b ≠ X.env.locals -> b ∈ X.fs -> b ∉ ch -> s.heap.get? b = some o -> H b = none -> ∃ sl, h'.get? b = some { o with slots := sl }) (free : ∀ b o, b ∉ ch -> s.heap.get? b = some o -> H b = none -> H' b = none)
    (there : ∀ b o, b ∉ ch -> s.heap.get? b = some o -> ∃ o', h'.get? b = some o')
    (lM : ∀ b xs, H b = some (.tup xs) -> H' b = some (.tup xs)) (mE : ∀ b o u, H b = some (.frz o u) -> H' b = some (.frz o u)) (oP : ∀ b ps, H b = some (.tbl ps) -> ∃ more, H' b = some (.tbl (ps ++ more)))
    (ns : ∀ m, s.heap.Ns X.env.locals m -> h'.Ns X.env.locals m) (hok : HOk X.prog X.w H' h') (hg : AllBare g') :
    Inv X pins σ H' { s with heap := h', gens := g', drawn := d', toks := t' } := by
  have neL : ∀ b o, X.aH.heap.get? b = some o -> b ≠ X.env.locals := fun b o e => Nat.ne_of_lt (Nat.lt_of_lt_of_le (Heap.lt_size e) I.ok.above)
  have neC : ∀ b o, X.aH.heap.get? b = some o -> b ∉ X.ex -> b ∉ ch := fun b o e hx hb => by
    rcases (hch b hb).1 with z | z
    · exact hx z
    · exact absurd (Nat.lt_of_lt_of_le (Heap.lt_size e) z) (Nat.lt_irrefl _)
  have cellK : ∀ x c, X.env.cells.lookup x = some c -> ∀ v, s.heap.IsCell c v -> h'.IsCell c v := fun x c e v ⟨o, ho, hd⟩ => by
    have nch : c ∉ ch := fun z => (hch c z).2.2.1 x c e rfl
    by_cases hc : c ∈ X.fs
    · obtain ⟨sl, q⟩ := slot c o (I.cne x c e) hc nch ho (I.iu x c e)
      exact ⟨_, q, hd⟩
    · exact ⟨o, keep c o (I.cne x c e) hc nch ho (I.iu x c e), hd⟩
  refine ⟨I.ok, I.os, hg, ⟨fun b o e n hb hx => ?_, fun b o e n hb hx => ?_, fun b o e n hx => ?_, fun b o e hx => ?_, fun b xs e => lM b xs (I.base.lM b xs e), fun b o xs e => mE b o xs (I.base.mE b o xs e), fun b ps e => ?_⟩, ?_, fun x c e => ?_, ?_, fun x c e => ?_, fun p hp => ?_, hok, I.len⟩
  · exact keep b o (neL b o e) hb (neC b o e hx) (I.base.keep b o e n hb hx) (I.base.free b o e n hx)
  · obtain ⟨sl, e1⟩ := I.base.slot b o e n hb hx
    obtain ⟨sl', e2⟩ := slot b _ (neL b o e) hb (neC b o e hx) e1 (I.base.free b o e n hx)
    exact ⟨sl', e2⟩
  · obtain ⟨o', e1⟩ := I.base.there b o e hx
    exact free b o' (neC b o e hx) e1 (I.base.free b o e n hx)
  · obtain ⟨o', e1⟩ := I.base.there b o e hx
    exact there b o' (neC b o e hx) e1
  · obtain ⟨m1, e1⟩ := I.base.oP b ps e
    obtain ⟨m2, e2⟩ := oP b _ e1
    exact ⟨m1 ++ m2, by rw [e2, Array.append_assoc]⟩
  · obtain ⟨m, hn, hl⟩ := I.loc
    refine ⟨m, ns m hn, fun i x v e1 e2 e3 => ?_⟩
    obtain ⟨u, r, l⟩ := hl i x v e1 e2 e3
    refine ⟨u, r, ?_⟩
    rcases l with l | ⟨k, c, e, z⟩
    · exact .inl l
    · exact .inr ⟨k, c, e, cellK x c e _ z⟩
  · obtain ⟨v, z⟩ := I.cell x c e
    exact ⟨v, cellK x c e v z⟩
  · obtain ⟨m, ⟨o, _, _, ho, _⟩, _⟩ := I.loc
    exact free _ o (fun z => (hch _ z).2.1 rfl) ho I.free
  · obtain ⟨v, o, ho, hd⟩ := I.cell x c e
    exact free c o (fun z => (hch c z).2.2.1 x c e rfl) ho (I.iu x c e)
  · obtain ⟨e, n, ne, nf, d⟩ := I.pin p hp
    have nch : p.1 ∉ ch := fun z => (hch p.1 z).2.2.2 p hp rfl
    exact ⟨keep p.1 p.2 ne nf nch e n, free p.1 p.2 nch e n, ne, nf, d⟩
theorem Inv.un {t' : Nat} (I : Inv X pins σ H s) (u : Un X.fs [] H H' s.heap h') (hok : HOk X.prog X.w H' h') : Inv X pins σ H' { s with heap := h', toks := t' } := by
  obtain ⟨m, ⟨o, es, ep, ho, r⟩, _⟩ := id I.loc
  obtain ⟨sl, hL⟩ := u.any ho I.free (by simp)
  exact I.step (g' := s.gens) (d' := s.drawn) (ch := []) (fun _ z => nomatch z) (fun b o _ hb _ e n => u.keep b o e n hb (by simp)) (fun b o _ hb _ e n => u.slot b o e n hb (by simp)) (fun b o _ e n => u.free b o e n (by simp)) (fun b o _ e => u.there b o e (by simp)) u.lM u.mE u.oP (fun m' hm => by
    obtain ⟨o', es', ep', ho', r'⟩ := hm
    rw [ho] at ho'; cases ho'
    exact ⟨_, es', ep', hL, r'⟩) hok I.bare
theorem Inv.call {g' : Array GenState} {t' : Nat} {d' : Drawn} {ch : List Addr} (I : Inv X pins σ H s) (u : Un (frs X.stack) ch H H' s.heap h') (hok : HOk X.prog X.w H' h') (hg : AllBare g')
    (hch : ∀ b ∈ ch, (b ∈ X.ex \/ X.aH.heap.objs.size <= b) /\ b ≠ X.env.locals /\ (∀ x c, X.env.cells.lookup x = some c -> c ≠ b) /\ ∀ p ∈ X.pn ++ pins, p.1 ≠ b) :
    Inv X pins σ H' { s with heap := h', gens := g', drawn := d', toks := t' } := by
  obtain ⟨m, ⟨o, es, ep, ho, r⟩, _⟩ := id I.loc
  obtain ⟨sl, hL⟩ := u.any ho I.free fun z => (hch _ z).2.1 rfl
  exact I.step (ch := ch) hch (fun b o hL hb hc e n => u.keep b o e n (fun z => (List.mem_cons.mp (I.oE b z)).elim hL hb) hc) (fun b o _ _ hc e n => u.any e n hc) (fun b o hc e n => u.free b o e n hc) (fun b o hc e => u.there b o e hc) u.lM u.mE u.oP (fun m' hm => by
    obtain ⟨o', es', ep', ho', r'⟩ := hm
    rw [ho] at ho'; cases ho'
    exact ⟨_, es', ep', hL, r'⟩) hok hg
theorem Inv.turned {t' : Nat} {it : Addr} (I : Inv X pins σ H s) (k : ∀ b o, b ≠ it -> s.heap.get? b = some o -> h'.get? b = some o) (hn : H it = none) (hL : it ≠ X.env.locals)
    (h1 : it ∈ X.ex \/ X.aH.heap.objs.size <= it) (h2 : ∀ x c, X.env.cells.lookup x = some c -> c ≠ it) (h3 : ∀ p ∈ X.pn ++ pins, p.1 ≠ it) : Inv X pins σ H { s with heap := h', toks := t' } := by
  have nit : ∀ b u, H b = some u -> b ≠ it := fun b u e z => by rw [z, hn] at e; cases e
  refine I.step (g' := s.gens) (d' := s.drawn) (ch := [it]) (fun b hb => ?_) (fun b o _ _ hc e _ => k b o (fun z => hc (by simp [z])) e) (fun b o _ _ hc e _ => ⟨o.slots, k b o (fun z => hc (by simp [z])) e⟩) (fun _ _ _ _ n => n)
    (fun b o hc e => ⟨o, k b o (fun z => hc (by simp [z])) e⟩) (fun _ _ e => e) (fun _ _ _ e => e) (fun b ps e => ⟨#[], by rw [e]; simp⟩) (fun m hm => ?_) (fun b u e => ?_) I.bare
  · have e : b = it := by simpa using hb
    subst e
    exact ⟨h1, hL, h2, h3⟩
  · obtain ⟨o, es, ep, ho, r⟩ := hm
    exact ⟨o, es, ep, k _ o (Ne.symm hL) ho, r⟩
  · refine (I.hok b u e).mw (fun c v hc q => k c v ?_ q) (fun _ q => q) fun _ _ q => q
    rcases hc with z | z
    · rw [z]; exact nit b u e
    · exact nit c _ z
theorem Inv.tok (I : Inv X pins σ H s) (t : Nat) : Inv X pins σ H { s with toks := t } := I.un (h' := s.heap) (t' := t) Un.refl I.hok
theorem Inv.kept {t' : Nat} (I : Inv X pins σ H s) (k : ∀ b u, s.heap.get? b = some u -> h'.get? b = some u) : Inv X pins σ H { s with heap := h', toks := t' } := I.un (Un.kept k) (I.hok.kept k)
theorem Inv.laid {a : Addr} {o : HO} {t' : Nat} (I : Inv X pins σ H s) (k : ∀ b u, s.heap.get? b = some u -> h'.get? b = some u) (hp : s.heap.objs.size <= a) (new : bc X.prog X.w (upd H a o) h' a o) :
    Inv X pins σ (upd H a o) { s with heap := h', toks := t' } := I.un (Un.laid k hp (I.hok.fresh hp)) (I.hok.laid k hp new)
theorem Inv.write {x e : Addr} {o : HO} {t' : Nat} (I : Inv X pins σ H s) (mu : Mut (H x)) (he : e = x \/ H e = some (.own x)) (k : ∀ b u, b ≠ e -> s.heap.get? b = some u -> h'.get? b = some u) (heo : ∃ u, h'.get? e = some u)
    (new : bc X.prog X.w (upd H x o) h' x o) : Inv X pins σ (upd H x o) { s with heap := h', toks := t' } := I.un (Un.write mu he k heo) (I.hok.write mu he k heo new)
theorem Inv.kJ {pins' : List (Addr × Obj)} (I : Inv X pins σ H s) (h : ∀ p ∈ pins', s.heap.get? p.1 = some p.2 /\ H p.1 = none /\ p.1 ≠ X.env.locals /\ p.1 ∉ X.fs /\ ∀ v, p.2.data ≠ .cell v) : Inv X pins' σ H s :=
  ⟨I.ok, I.os, I.bare, I.base, I.loc, I.cell, I.free, I.iu, fun p hp => (List.mem_append.mp hp).elim (fun z => I.pin p (List.mem_append_left _ z)) (h p), I.hok, I.len⟩
theorem qV {N : List Str} (hN : N.Nodup) {i j : Nat} {x : Str} (a : N[i]? = some x) (b : N[j]? = some x) : i = j := by
  obtain ⟨h1, e1⟩ := List.getElem?_eq_some_iff.mp a
  obtain ⟨h2, e2⟩ := List.getElem?_eq_some_iff.mp b
  exact (List.getElem_inj hN).mp (e1.trans e2.symm)
theorem ux {M : Model} {A : Around} {E : Value -> Shared -> Prop} {i : Nat} {x : Str} {v : V} {u : Value} {Q : Unit -> Shared -> Prop} (I : Inv X pins σ H s) (hN : X.N.Nodup) (hi : X.N[i]? = some x) (hx : Loc X.env.scope x) (r : RelV v u)
    (h : ∀ s', Inv X pins (σ.set i (some v)) H s' -> (∃ a, Heap.SameBut a s.heap s'.heap /\ (a = X.env.locals \/ X.env.cells.lookup x = some a)) -> Q () s') (hf : X.fn x = true \/ X.env.scope.names.lookup x = some .local := by first | exact .inl rfl | exact .inr rfl | assumption) : wpAny M A (storeName X.env x u) Q E s := by
  obtain ⟨m, hn, hl⟩ := id I.loc
  have hcls : (X.env.scope.kind == .class || (X.env.scope.kind == .module && X.env.locals != X.env.globals)) = false := by rw [I.ok.kind]; rfl
  have hiσ : i < σ.length := by rw [I.len]; exact (List.getElem?_eq_some_iff.mp hi).1
  have cne := I.cne
  have tracked : ∀ {a : Addr} {h' : Heap}, (∃ o, s.heap.get? a = some o /\ H a = none) -> Heap.SameBut a s.heap h' -> HOk X.prog X.w H h' := fun {a h'} ha hs b ob e => by
    obtain ⟨_, _, hfree⟩ := ha
    refine (I.hok b ob e).mw (fun c w' hc q => (hs.2 c ?_).trans q) (fun _ q => q) fun _ _ q => q
    rintro rfl
    rcases hc with rfl | hc
    · rw [hfree] at e; cases e
    · rw [hfree] at hc; cases hc
  rcases hx with hk | hk
  · refine wpAny_storeName_local hk hn (fun h' hn' hs => ?_) hcls
    obtain ⟨oL, _, _, hoL, _⟩ := id hn
    refine h _ ⟨I.ok, I.os, I.bare, ⟨fun b o e n hb hx => ?_, fun b o e n hb hx => ?_, I.base.free, fun b o e hx => ?_, I.base.lM, I.base.mE, I.base.oP⟩, ⟨_, hn', fun j y v' e1 e2 e3 => ?_⟩, fun y c e => ?_, I.free, I.iu, fun p hp => ?_, tracked ⟨oL, hoL, I.free⟩ hs, by simpa using I.len⟩ ⟨_, hs, .inl rfl⟩
    · exact (hs.2 b (Nat.ne_of_lt (Nat.lt_of_lt_of_le (Heap.lt_size e) I.ok.above))).trans (I.base.keep b o e n hb hx)
    · obtain ⟨sl, e1⟩ := I.base.slot b o e n hb hx
      exact ⟨sl, (hs.2 b (Nat.ne_of_lt (Nat.lt_of_lt_of_le (Heap.lt_size e) I.ok.above))).trans e1⟩
    · obtain ⟨o', e1⟩ := I.base.there b o e hx
      exact ⟨o', (hs.2 b (Nat.ne_of_lt (Nat.lt_of_lt_of_le (Heap.lt_size e) I.ok.above))).trans e1⟩
    · by_cases hj : j = i
      · subst hj
        rw [hi] at e1; cases e1
        rw [List.getElem?_set_self hiσ] at e2
        cases e2
        exact ⟨u, r, .inl ⟨hk, by simp⟩⟩
      · rw [List.getElem?_set_ne (Ne.symm hj)] at e2
        obtain ⟨u', r', q⟩ := hl j y v' e1 e2 e3
        refine ⟨u', r', ?_⟩
        rcases q with ⟨k, e⟩ | ⟨k, c, e, z⟩
        · refine .inl ⟨k, ?_⟩
          have : y ≠ x := fun e => hj (qV hN e1 (e ▸ hi))
          simp [this, e]
        · exact .inr ⟨k, c, e, z.sameBut hs (cne y c e)⟩
    · obtain ⟨w', z⟩ := I.cell y c e
      exact ⟨w', z.sameBut hs (cne y c e)⟩
    · obtain ⟨e, n, ne, nf, d⟩ := I.pin p hp
      exact ⟨(hs.2 p.1 ne).trans e, n, ne, nf, d⟩
  · have hfn : X.fn x = true := by
      rcases hf with z | z
      · exact z
      · rw [z] at hk; cases hk
    obtain ⟨c, hc⟩ := I.ok.has x (.inl hk)
    obtain ⟨w', z⟩ := I.cell x c hc
    refine wpAny_storeName_cell I.ok.kind hk hc z (fun h' hc' hs => ?_)
    obtain ⟨oc, hoc, hocd⟩ := id z
    refine h { s with heap := h' } ⟨I.ok, I.os, I.bare, ⟨fun b o e n hb hx => ?_, fun b o e n hb hx => ?_, I.base.free, fun b o e hx => ?_, I.base.lM, I.base.mE, I.base.oP⟩, ⟨m, hn.sameBut hs (Ne.symm (cne x c hc)), fun j y v' e1 e2 e3 => ?_⟩, fun y c' e => ?_, I.free, I.iu, fun p hp => ?_, tracked ⟨oc, hoc, I.iu x c hc⟩ hs, by simpa using I.len⟩ ⟨c, hs, .inr hc⟩
    · exact (hs.2 b (Nat.ne_of_lt (Nat.lt_of_lt_of_le (Heap.lt_size e) (I.ok.cab x c hfn hc)))).trans (I.base.keep b o e n hb hx)
    · obtain ⟨sl, e1⟩ := I.base.slot b o e n hb hx
      exact ⟨sl, (hs.2 b (Nat.ne_of_lt (Nat.lt_of_lt_of_le (Heap.lt_size e) (I.ok.cab x c hfn hc)))).trans e1⟩
    · obtain ⟨o', e1⟩ := I.base.there b o e hx
      exact ⟨o', (hs.2 b (Nat.ne_of_lt (Nat.lt_of_lt_of_le (Heap.lt_size e) (I.ok.cab x c hfn hc)))).trans e1⟩
    · by_cases hj : j = i
      · subst hj
        rw [hi] at e1; cases e1
        rw [List.getElem?_set_self hiσ] at e2
        cases e2
        exact ⟨u, r, .inr ⟨.inl hk, c, hc, hc'⟩⟩
      · rw [List.getElem?_set_ne (Ne.symm hj)] at e2
        obtain ⟨u', r', q⟩ := hl j y v' e1 e2 e3
        refine ⟨u', r', ?_⟩
        rcases q with q | ⟨k, c', e, z'⟩
        · exact .inl q
        · refine .inr ⟨k, c', e, z'.sameBut hs ?_⟩
          rintro rfl
          exact hj (qV hN e1 (I.ok.inj _ _ _ e hc ▸ hi))
    · by_cases hcc : c' = c
      · subst hcc; exact ⟨_, hc'⟩
      · obtain ⟨w2, z2⟩ := I.cell y c' e
        exact ⟨w2, z2.sameBut hs hcc⟩
    · obtain ⟨e, n, ne, nf, d⟩ := I.pin p hp
      refine ⟨(hs.2 p.1 ?_).trans e, n, ne, nf, d⟩
      intro q
      rw [q, hoc] at e
      have q' : oc = p.2 := Option.some.inj e
      exact d w' (by rw [<- q']; exact hocd)
theorem jk {M : Model} {A : Around} {E : Value -> Shared -> Prop} {i : Nat} {x : Str} {v : V} {u : Value} {Q : Unit -> Shared -> Prop} (I : Inv X pins σ H s) (hN : X.N.Nodup) (hi : X.N[i]? = some x) (hx : Loc X.env.scope x) (r : RelV v u)
    (h : ∀ s', Inv X pins (σ.set i (some v)) H s' -> Q () s') (hf : X.fn x = true \/ X.env.scope.names.lookup x = some .local := by first | exact .inl rfl | exact .inr rfl | assumption) : wpAny M A (storeName X.env x u) Q E s :=
  ux I hN hi hx r (fun s' I' _ => h s' I') hf
theorem Inv.sJ {s' : Shared} {ch : List Addr} (I : Inv X pins σ H s) (ho : s'.os = s.os) (u : Un (frs X.stack) ch H H' s.heap s'.heap) (hok : HOk X.prog X.w H' s'.heap) (hg : AllBare s'.gens)
    (hch : ∀ b ∈ ch, (b ∈ X.ex \/ X.aH.heap.objs.size <= b) /\ b ≠ X.env.locals /\ (∀ x c, X.env.cells.lookup x = some c -> c ≠ b) /\ ∀ p ∈ X.pn ++ pins, p.1 ≠ b) : Inv X pins σ H' s' := by
  obtain ⟨h', g', d', t', o'⟩ := s'
  have e : o' = s.os := ho
  subst e
  exact I.call (g' := g') (t' := t') (d' := d') u hok hg hch
end
noncomputable abbrev XK := Value -> Option Addr -> Hp -> Prop
noncomputable abbrev St := List (Option V)
noncomputable abbrev VK := V -> Hp -> Prop
noncomputable abbrev TE := St -> Hp -> VK -> Prop
noncomputable abbrev TT := St -> Hp -> (Bool -> Hp -> Prop) -> Prop
noncomputable abbrev TA := St -> Hp -> (List V -> Hp -> Prop) -> Prop
structure Ends where
  nx : St -> Hp -> Prop
  rt : VK
  bk : St -> Hp -> Prop := fun _ _ => False
  ct : St -> Hp -> Prop := fun _ _ => False
noncomputable abbrev TS := Ends -> St -> Hp -> Prop
noncomputable def EP (X : Cx) (pins : List (Addr × Obj)) (σ : St) (Q : VK) (u : Value) (s' : Shared) : Prop := ∃ v H', Inv X pins σ H' s' /\ RelV v u /\ Q v H'
noncomputable def TP (X : Cx) (pins : List (Addr × Obj)) (σ : St) (Q : Bool -> Hp -> Prop) (b : Bool) (s' : Shared) : Prop := ∃ H', Inv X pins σ H' s' /\ Q b H'
noncomputable def AP (X : Cx) (pins : List (Addr × Obj)) (σ : St) (Q : List V -> Hp -> Prop) (us : List Value) (s' : Shared) : Prop := ∃ vs H', Inv X pins σ H' s' /\ Vals vs us /\ Q vs H'
noncomputable def SP (X : Cx) (pins : List (Addr × Obj)) (D : Ends) (f : Flow) (s' : Shared) : Prop :=
  match f with
  | .next => ∃ σ' H', Inv X pins σ' H' s' /\ D.nx σ' H'
  | .brk => ∃ σ' H', Inv X pins σ' H' s' /\ D.bk σ' H'
  | .cont => ∃ σ' H', Inv X pins σ' H' s' /\ D.ct σ' H'
  | .ret u => ∃ v σ' H', Inv X pins σ' H' s' /\ RelV v u /\ D.rt v H'
noncomputable def PE (X : Cx) (e : Expr) (t : TE) : Prop :=
  ∀ (pins : List (Addr × Obj)) (s : Shared) (σ : St) (H : Hp) (Q : VK), Inv X pins σ H s -> t σ H Q -> wpAny (model X.prog X.w) X.A (eval e X.env) (EP X pins σ Q) X.xe s
noncomputable def PT (X : Cx) (e : Expr) (t : TT) : Prop :=
  ∀ (pins : List (Addr × Obj)) (s : Shared) (σ : St) (H : Hp) (Q : Bool -> Hp -> Prop), Inv X pins σ H s -> t σ H Q -> wpAny (model X.prog X.w) X.A (isTrue e X.env (eval e X.env)) (TP X pins σ Q) X.xe s
noncomputable def PW (X : Cx) (e : Expr) (t : TT) : Prop :=
  ∀ (whole : Sem Value) (pins : List (Addr × Obj)) (s : Shared) (σ : St) (H : Hp) (Q : Bool -> Hp -> Prop), Inv X pins σ H s -> t σ H Q -> wpAny (model X.prog X.w) X.A (isTrue e X.env whole) (TP X pins σ Q) X.xe s
theorem PW.pt {X : Cx} {e : Expr} {t : TT} (h : PW X e t) : PT X e t := h _
noncomputable def PA (X : Cx) (es : List Expr) (t : TA) : Prop :=
  ∀ (pos : Pos) (pins : List (Addr × Obj)) (s : Shared) (σ : St) (H : Hp) (Q : List V -> Hp -> Prop), Inv X pins σ H s -> t σ H Q -> wpAny (model X.prog X.w) X.A (spliced (backTo pos (starEach es X.env))) (AP X pins σ Q) X.xe s
noncomputable def PS (X : Cx) (st : Stmt) (t : TS) : Prop :=
  ∀ (pins : List (Addr × Obj)) (s : Shared) (σ : St) (H : Hp) (D : Ends), Inv X pins σ H s -> t D σ H -> wpAny (model X.prog X.w) X.A (exec st X.env) (SP X pins D) X.xe s
noncomputable def PSs (X : Cx) (st : List Stmt) (t : TS) : Prop :=
  ∀ (pins : List (Addr × Obj)) (s : Shared) (σ : St) (H : Hp) (D : Ends), Inv X pins σ H s -> t D σ H -> wpAny (model X.prog X.w) X.A (execs st X.env) (SP X pins D) X.xe s
theorem thn {α : Type} {t : Sem α} {Q Q' : α -> Shared -> Prop} {M : Model} {A : Around} {E : Value -> Shared -> Prop} {s : Shared} (h : wpAny M A t Q E s) (hQ : ∀ a s, Q a s -> Q' a s) : wpAny M A t Q' E s := wpAny_mono h hQ fun _ _ x => x
section
variable {X : Cx}
noncomputable def D3 (i : Nat) : TE := fun σ H Q => ∃ v, σ[i]? = some (some v) /\ Q v H
noncomputable def tC (v : V) : TE := fun _ H Q => Q v H
theorem Bn {i : Nat} {x : Str} {pos : Pos} (hN : X.N[i]? = some x) (hv : Vis X.env.scope x) (hd : (x == ("__debug__" : Str)) = false := by decide) (hcd : (x == ("__classdict__" : Str)) = false := by decide) : PE X (.Name x pos) (D3 i) := by
  intro pins s σ H Q I h
  obtain ⟨v, e, h⟩ := h
  obtain ⟨m, hn, hl⟩ := I.loc
  obtain ⟨u, r, l⟩ := hl i x v hN e hv
  have fin : EP X pins σ Q u s := ⟨v, H, I, r, h⟩
  rcases l with ⟨hk, hm⟩ | ⟨hk, c, hc, hcell⟩
  · exact wpAny_Name (wpAny_loadName_local I.ok.kind hk hn hm fin) hd
  · rcases hk with hk | hk
    · exact wpAny_Name (wpAny_loadName_cell I.ok.kind hk hc hcell fin) hd
    · exact wpAny_Name (wpAny_loadName_free I.ok.kind hk hc hcell fin hcd) hd
theorem vk {i j pos} : PE X (.Constant (.int i) j pos) (tC (.int i)) := fun _ _ _ H _ I h => wpAny_Constant_int ⟨.int i, H, I.tok _, ⟨_, rfl⟩, h⟩
theorem BZ {b j pos} : PE X (.Constant (.bool b) j pos) (tC (.bl b)) := fun _ _ _ H _ I h => Constant_bool ⟨.bl b, H, I, rfl, h⟩
noncomputable def Gl (X : Cx) (x : Str) : Prop := X.env.kindOf x = some .globalImplicit
theorem tD {E : Value -> Shared -> Prop} {pins : List (Addr × Obj)} {s : Shared} {σ : St} {H : Hp} {x : Str} {u : Value} {pos : Pos} {Q : Value -> Shared -> Prop} (I : Inv X pins σ H s) (hg : Gl X x) (hm : X.mg x = some u) (h : Q u s)
    (hd : (x == ("__debug__" : Str)) = false := by decide) : wpAny (model X.prog X.w) X.A (eval (.Name x pos) X.env) Q E s :=
  Calls.Name_function_global I.ok.kind hg (Calls.loadGlobal_global (by rw [I.ok.glob]; exact I.mod.glob.keeps I.bk) hm h) hd
theorem jG {E : Value -> Shared -> Prop} {pins : List (Addr × Obj)} {s : Shared} {σ : St} {H : Hp} {x : Str} {u : Value} {pos : Pos} {Q : Value -> Shared -> Prop} (I : Inv X pins σ H s) (hg : Gl X x) (hm : X.mg x = none) (hv : bootBuiltins x = some u) (h : Q u s)
    (hn : x ≠ "__name__" := by decide) (hd : (x == ("__debug__" : Str)) = false := by decide) : wpAny (model X.prog X.w) X.A (eval (.Name x pos) X.env) Q E s := by
  obtain ⟨mb, h1, h2⟩ := I.mod.blt
  exact Calls.Name_function_global I.ok.kind hg (Calls.loadGlobal_builtin (by rw [I.ok.glob]; exact I.mod.glob.keeps I.bk) hm (by rw [I.ok.blt]; exact h1.keeps I.bk) ((h2 x hn).trans hv) h) hd
theorem yV {x : Str} {v : V} {u : Value} {pos : Pos} (hg : Gl X x) (hm : X.mg x = some u) (r : RelV v u) (hd : (x == ("__debug__" : Str)) = false := by decide) : PE X (.Name x pos) (tC v) :=
  fun _ _ _ H _ I h => tD I hg hm ⟨v, H, I, r, h⟩ hd
theorem zl {x : Str} {v : V} {u : Value} {pos : Pos} (hg : Gl X x) (hm : X.mg x = none) (hv : bootBuiltins x = some u) (r : RelV v u) (hn : x ≠ "__name__" := by decide) (hd : (x == ("__debug__" : Str)) = false := by decide) : PE X (.Name x pos) (tC v) :=
  fun _ _ _ H _ I h => jG I hg hm hv ⟨v, H, I, r, h⟩ hn hd
variable {a b : Expr} {ta tb : TE} {pos : Pos}
variable {tA tB' : TT} {rest : List Expr}
noncomputable def Ew (t u : TT) : TT := fun σ H Q => t σ H fun c H1 => if c = true then u σ H1 Q else Q false H1
noncomputable def tOr (t u : TT) : TT := fun σ H Q => t σ H fun c H1 => if c = true then Q true H1 else u σ H1 Q
noncomputable def DE (t : TT) : TT := fun σ H Q => t σ H fun c H1 => Q (!c) H1
theorem pw_and1 (ha : PT X a tA) : PW X (.BoolOp .And [a] pos) tA := by
  intro wh pins s σ H Q I h
  refine isTrue_and (thn (ha pins s σ H Q I h) fun c s1 e => ?_)
  cases c with
  | true => exact isTrue_and_nil e
  | false => exact e
theorem pw_or1 (ha : PT X a tA) : PW X (.BoolOp .Or [a] pos) tA := by
  intro wh pins s σ H Q I h
  refine isTrue_or (thn (ha pins s σ H Q I h) fun c s1 e => ?_)
  cases c with
  | false => exact isTrue_or_nil e
  | true => exact e
theorem pw_and (ha : PT X a tA) (hb : PW X (.BoolOp .And (b :: rest) pos) tB') : PW X (.BoolOp .And (a :: b :: rest) pos) (Ew tA tB') := by
  intro wh pins s σ H Q I h
  refine isTrue_and (thn (ha pins s σ H _ I h) fun c s1 ⟨H1, I1, q1⟩ => ?_)
  cases c with
  | true => exact hb wh pins s1 σ H1 Q I1 q1
  | false => exact ⟨H1, I1, q1⟩
theorem pw_or (ha : PT X a tA) (hb : PW X (.BoolOp .Or (b :: rest) pos) tB') : PW X (.BoolOp .Or (a :: b :: rest) pos) (tOr tA tB') := by
  intro wh pins s σ H Q I h
  refine isTrue_or (thn (ha pins s σ H _ I h) fun c s1 ⟨H1, I1, q1⟩ => ?_)
  cases c with
  | true => exact ⟨H1, I1, q1⟩
  | false => exact hb wh pins s1 σ H1 Q I1 q1
theorem AH (ha : PT X a tA) : PT X (.UnaryOp .Not a pos) (DE tA) := by
  intro pins s σ H Q I h
  exact isTrue_not (ha pins s σ H (fun c H1 => Q (!c) H1) I h)
noncomputable def Ca (ta tb : TE) : TE := fun σ H Q => ta σ H fun x H1 => ∃ c, x = .bl c /\ if c = true then tb σ H1 Q else Q (.bl false) H1
noncomputable def BX (ta : TE) : TE := fun σ H Q => ta σ H fun x H1 => ∃ c, x = .bl c /\ Q (.bl (!c)) H1
theorem AZ {op} {t : TE} (h : PE X a t) : PE X (.BoolOp op [a] pos) t := fun pins s σ H Q I hw => BoolOp_one (h pins s σ H Q I hw)
theorem Al (ha : PE X a ta) (hb : PE X (.BoolOp .And (b :: rest) pos) tb) : PE X (.BoolOp .And (a :: b :: rest) pos) (Ca ta tb) := by
  intro pins s σ H Q I h
  refine BoolOp_and (thn (ha pins s σ H _ I h) fun v s1 ⟨x, H1, I1, r1, q1⟩ => ?_)
  obtain ⟨c, rfl, q1⟩ := q1
  cases r1
  refine wpAny_truthy_bool ?_
  cases c with
  | true => exact hb pins s1 σ H1 Q I1 q1
  | false => exact ⟨.bl false, H1, I1, rfl, q1⟩
theorem Ak (ha : PE X a ta) : PE X (.UnaryOp .Not a pos) (BX ta) := by
  intro pins s σ H Q I h
  refine UnaryOp_ (thn (ha pins s σ H _ I h) fun v s1 ⟨x, H1, I1, r1, q1⟩ => ?_)
  obtain ⟨c, rfl, q1⟩ := q1
  cases r1
  exact not_of (wpAny_truthy_bool ⟨.bl (!c), H1, I1, rfl, q1⟩)
noncomputable def tIf (t : TT) (ta tb : TE) : TE := fun σ H Q => t σ H fun c H1 => if c = true then ta σ H1 Q else tb σ H1 Q
theorem xn {c : Expr} (hc : PT X c tA) (ha : PE X a ta) (hb : PE X b tb) : PE X (.IfExp c a b pos) (tIf tA ta tb) := by
  intro pins s σ H Q I h
  refine wpAny_IfExp (thn (hc pins s σ H _ I h) fun d s1 ⟨H1, I1, q1⟩ => ?_)
  cases d with
  | true => exact ha pins s1 σ H1 Q I1 q1
  | false => exact hb pins s1 σ H1 Q I1 q1
end
noncomputable def SqL (K : PySem.W.Frag) (H : Hp) (a : Addr) (xs : List V) : Prop :=
  Rd H a (.lst xs) ∨
    ∃ (o : Obj) (its : Array Value) (n : Nat), K.lookup a = some o /\ o.cls = .type "list" /\ o.dict = none /\ o.data = .seq its n /\ its.size <= sizeLine /\ Vals xs its.toList
noncomputable def SqT (K : PySem.W.Frag) (H : Hp) (a : Addr) (xs : List V) : Prop :=
  Rd H a (.tup xs) ∨
    ∃ (o : Obj) (its : Array Value) (n : Nat), K.lookup a = some o /\ o.cls = .type "tuple" /\ o.data = .seq its n /\ its.size <= sizeLine /\ Vals xs its.toList
noncomputable def DF : Value -> Option V
  | .none => some .non
  | .bool b => some (.bl b)
  | .int i _ => some (.int i)
  | .str x _ => some (.str x)
  | .bytes b _ => some (.byt b)
  | .float b _ => some (.flt b)
  | .ref a => some (.ref a)
  | .type n => some (.ty n)
  | _ => none
theorem RelV.abs {x : V} {u : Value} (r : RelV x u) : DF u = some x := by
  cases x with
  | non => cases r; rfl
  | bl _ => cases r; rfl
  | int _ => obtain ⟨t, rfl⟩ := r; rfl
  | str _ => obtain ⟨t, rfl⟩ := r; rfl
  | byt _ => obtain ⟨t, rfl⟩ := r; rfl
  | flt _ => obtain ⟨t, rfl⟩ := r; rfl
  | ref _ => cases r; rfl
  | ty _ => cases r; rfl
theorem RelV.inj {x y : V} {u : Value} (r : RelV x u) (q : RelV y u) : x = y := Option.some.inj (r.abs.symm.trans q.abs)
theorem Vals.inj : ∀ {xs ys : List V} {us : List Value}, Vals xs us -> Vals ys us -> xs = ys
  | _, _, _, .nil, .nil => rfl
  | _, _, _, .cons r t, .cons r' t' => by rw [r.inj r', Vals.inj t t']
section
variable {X : Cx} {pins : List (Addr × Obj)} {σ : St} {H : Hp} {s : Shared} {a : Addr} {xs ys : List V}
theorem SqL.of {K : PySem.W.Frag} (h : H a = some (.lst xs)) : SqL K H a xs := .inl (.inl h)
theorem SqT.of {K : PySem.W.Frag} (h : H a = some (.tup xs)) : SqT K H a xs := .inl (.inl h)
theorem Inv.list (I : Inv X pins σ H s) (h : SqL X.K H a xs) : ∃ its : List Value, Vals xs its /\ PlainL s.heap a its.toArray /\ xs.length <= sizeLine := by
  rcases h with h | ⟨o, its, n, hk, hc, hd, hs, hz, r⟩
  · obtain ⟨z, its, n, r, e⟩ := h.ok I.hok
    exact ⟨its, r, ⟨_, n, e, rfl, rfl, rfl⟩, z⟩
  · refine ⟨its.toList, r, ⟨o, n, I.kIn a o hk, hc, hd, by simpa using hs⟩, ?_⟩
    have e := r.length
    simp only [Array.length_toList] at e
    omega
theorem Inv.tuple (I : Inv X pins σ H s) (h : SqT X.K H a xs) : ∃ its : List Value, Vals xs its /\ IsTup s.heap a its.toArray /\ xs.length <= sizeLine := by
  rcases h with h | ⟨o, its, n, hk, hc, hs, hz, r⟩
  · obtain ⟨z, its, r, p⟩ := h.ok I.hok
    exact ⟨its, r, p.tup, z⟩
  · refine ⟨its.toList, r, ⟨o, I.kIn a o hk, hc, n, by simpa using hs⟩, ?_⟩
    have e := r.length
    simp only [Array.length_toList] at e
    omega
theorem Inv.hJ (I : Inv X pins σ H s) (h : SqL X.K H a xs) (h' : SqL X.K H a ys) : xs = ys := by
  obtain ⟨its, r, ⟨o, n, e, _, _, d⟩, _⟩ := I.list h
  obtain ⟨its', r', ⟨o', n', e', _, _, d'⟩, _⟩ := I.list h'
  rw [e] at e'; cases e'
  rw [d] at d'
  injection d' with d1 _
  have : its = its' := by simpa using congrArg Array.toList d1
  subst this
  exact r.inj r'
theorem Inv.fA (I : Inv X pins σ H s) (h : SqT X.K H a xs) (h' : SqT X.K H a ys) : xs = ys := by
  obtain ⟨its, r, ⟨o, e, _, n, d⟩, _⟩ := I.tuple h
  obtain ⟨its', r', ⟨o', e', _, n', d'⟩, _⟩ := I.tuple h'
  rw [e] at e'; cases e'
  rw [d] at d'
  injection d' with d1 _
  have : its = its' := by simpa using congrArg Array.toList d1
  subst this
  exact r.inj r'
end
noncomputable abbrev Cx.mN (X : Cx) (E : Value -> Shared -> Prop) : Cx := { X with xe := E }
noncomputable abbrev Cx.nox (X : Cx) : Cx := X.mN fun _ _ => False
theorem Cx.Ok.mN {X : Cx} (ok : X.Ok) (E : Value -> Shared -> Prop) : (X.mN E).Ok :=
  ⟨ok.mod, ok.kind, ok.glob, ok.blt, ok.above, ok.inj, ok.has, ok.cab, ok.hd, ok.frames, ok.stk, ok.exf, ok.bs, ok.bsz, ok.xB, ok.xO, ok.kL, ok.frf⟩
theorem Cx.Ok.gW {X : Cx} {E : Value -> Shared -> Prop} (ok : (X.mN E).Ok) : X.Ok :=
  ⟨ok.mod, ok.kind, ok.glob, ok.blt, ok.above, ok.inj, ok.has, ok.cab, ok.hd, ok.frames, ok.stk, ok.exf, ok.bs, ok.bsz, ok.xB, ok.xO, ok.kL, ok.frf⟩
section
variable {X : Cx} {pins : List (Addr × Obj)} {σ : St} {H : Hp} {s : Shared} {E : Value -> Shared -> Prop}
theorem Inv.mN (I : Inv X pins σ H s) (E : Value -> Shared -> Prop) : Inv (X.mN E) pins σ H s := ⟨I.ok.mN E, I.os, I.bare, I.base, I.loc, I.cell, I.free, I.iu, I.pin, I.hok, I.len⟩
theorem Inv.gW (I : Inv (X.mN E) pins σ H s) : Inv X pins σ H s := ⟨I.ok.gW, I.os, I.bare, I.base, I.loc, I.cell, I.free, I.iu, I.pin, I.hok, I.len⟩
theorem SP.gW {D : Ends} {f : Flow} {s' : Shared} (h : SP (X.mN E) pins D f s') : SP X pins D f s' := by
  cases f with
  | next => obtain ⟨σ', H', I, q⟩ := h; exact ⟨σ', H', I.gW, q⟩
  | brk => obtain ⟨σ', H', I, q⟩ := h; exact ⟨σ', H', I.gW, q⟩
  | cont => obtain ⟨σ', H', I, q⟩ := h; exact ⟨σ', H', I.gW, q⟩
  | ret u => obtain ⟨v, σ', H', I, r, q⟩ := h; exact ⟨v, σ', H', I.gW, r, q⟩
theorem PSs.nox {st : List Stmt} {t : TS} (h : PSs X.nox st t) : PSs X st t := fun pins s σ H D I hw =>
  wpAny_mono (h pins s σ H D (I.mN _) hw) (fun _ _ q => q.gW) fun _ _ z => False.elim z
end
section
variable {X : Cx} {st : Stmt} {rest : List Stmt} {t u : TS} {e : Expr} {te : TE} {pos : Pos}
noncomputable def Ci : TS := fun D σ H => D.nx σ H
noncomputable def Ef (t u : TS) : TS := fun D σ H => t { D with nx := u D } σ H
theorem yL : PSs X [] Ci := fun _ _ σ H _ I h => wpAny_execs_nil ⟨σ, H, I, h⟩
theorem vP (h1 : PS X st t) (h2 : PSs X rest u) : PSs X (st :: rest) (Ef t u) := by
  intro pins s σ H D I h
  refine wpAny_execs_cons (thn (h1 pins s σ H { D with nx := u D } I h) fun f s1 q => ?_)
  cases f with
  | next =>
    obtain ⟨σ', H', I', q⟩ := q
    exact h2 pins s1 σ' H' D I' q
  | ret v => exact q
  | brk => exact q
  | cont => exact q
theorem yo (h1 : PS X st t) : PSs X [st] t := by
  intro pins s σ H D I h
  refine wpAny_execs_cons (thn (h1 pins s σ H D I h) fun f s1 q => ?_)
  cases f with
  | next => exact wpAny_execs_nil q
  | ret v => exact q
  | brk => exact q
  | cont => exact q
theorem Inv.quiet {pins : List (Addr × Obj)} {σ : St} {H : Hp} {s : Shared} (I : Inv X pins σ H s) : interactive X.env = false := by simp [interactive, I.ok.kind]
noncomputable def CL (te : TE) : TS := fun D σ H => te σ H fun _ H1 => D.nx σ H1
theorem ya (he : PE X e te) (hs : swapsWith e none pos.line X.env = pure false := by rfl) : PS X (.Expr e pos) (CL te) := by
  intro pins s σ H D I h
  exact wpAny_Expr_any (thn (he pins s σ H _ I h) fun v s1 ⟨x, H1, I1, r1, q1⟩ => ⟨σ, H1, I1, q1⟩) I.quiet hs
noncomputable def Eb (te : TE) : TS := fun D σ H => te σ H D.rt
theorem A2 (he : PE X e te) : PS X (.Return (some e) pos) (Eb te) := by
  intro pins s σ H D I h
  exact wpAny_Return_some (thn (he pins s σ H _ I h) fun v s1 ⟨x, H1, I1, r1, q1⟩ => ⟨x, σ, H1, I1, r1, q1⟩)
noncomputable def DM (c : TT) (t u : TS) : TS := fun D σ H => c σ H fun b H1 => if b = true then t D σ H1 else u D σ H1
theorem BL {c : Expr} {a b : List Stmt} {tc : TT} (hc : PT X c tc) (ha : PSs X a t) (hb : PSs X b u) : PS X (.If c a b pos) (DM tc t u) := by
  intro pins s σ H D I h
  refine wpAny_If (thn (hc pins s σ H _ I h) fun d s1 ⟨H1, I1, q1⟩ => ?_)
  cases d with
  | true => exact ha pins s1 σ H1 D I1 q1
  | false => exact hb pins s1 σ H1 D I1 q1
noncomputable def Bp : TS := fun _ _ _ => False
theorem gX : PS X st Bp := fun _ _ _ _ _ _ h => h.elim
end
noncomputable abbrev TG := V -> St -> Hp -> (St -> Hp -> Prop) -> Prop
noncomputable abbrev TGs := List V -> St -> Hp -> (St -> Hp -> Prop) -> Prop
noncomputable def PG (X : Cx) (target : Expr) (t : TG) : Prop :=
  ∀ (pins : List (Addr × Obj)) (s : Shared) (σ : St) (H : Hp) (v : V) (u : Value) (Q : St -> Hp -> Prop), Inv X pins σ H s -> RelV v u -> t v σ H Q →
    wpAny (model X.prog X.w) X.A (assign target X.env u) (fun _ s' => ∃ σ' H', Inv X pins σ' H' s' /\ Q σ' H') X.xe s
noncomputable def PGs (X : Cx) (ts : List Expr) (t : TGs) : Prop :=
  ∀ (pins : List (Addr × Obj)) (s : Shared) (σ : St) (H : Hp) (vs : List V) (us : List Value) (Q : St -> Hp -> Prop), Inv X pins σ H s -> Vals vs us -> t vs σ H Q →
    wpAny (model X.prog X.w) X.A (assignInOrder ((assignEach ts X.env).map (·.2)) us) (fun _ s' => ∃ σ' H', Inv X pins σ' H' s' /\ Q σ' H') X.xe s
noncomputable abbrev sv := V -> V -> V -> Hp -> (Hp -> Prop) -> Prop
noncomputable def xZ (X : Cx) (t : sv) : Prop :=
  ∀ (pins : List (Addr × Obj)) (s : Shared) (σ : St) (H : Hp) (o i v : V) (ov iv u : Value) (Q : Hp -> Prop), Inv X pins σ H s -> RelV o ov -> RelV i iv -> RelV v u -> t o i v H Q →
    wpAny (model X.prog X.w) X.A (setItem ov iv u) (fun _ s' => ∃ H', Inv X pins σ H' s' /\ Q H') X.xe s
noncomputable abbrev TIp := V -> V -> Hp -> VK -> Prop
noncomputable def PIp (X : Cx) (op : Operator) (t : TIp) : Prop :=
  ∀ (pins : List (Addr × Obj)) (s : Shared) (σ : St) (H : Hp) (x y : V) (v u : Value) (Q : VK), Inv X pins σ H s -> RelV x v -> RelV y u -> t x y H Q →
    wpAny (model X.prog X.w) X.A (inplaceOp op v u) (EP X pins σ Q) X.xe s
section
variable {X : Cx} {pos : Pos}
noncomputable def fw (i : Nat) : TG := fun v σ H Q => Q (σ.set i (some v)) H
theorem bz {i : Nat} {x : Str} (hN : X.N.Nodup) (hi : X.N[i]? = some x) (hx : Loc X.env.scope x) (hf : X.fn x = true \/ X.env.scope.names.lookup x = some .local := by first | exact .inl rfl | exact .inr rfl | assumption) : PG X (.Name x pos) (fw i) := by
  intro pins s σ H v u Q I r h
  exact wpAny_assign_Name (jk I hN hi hx r (fun s' I' => ⟨_, H, I', h⟩) hf)
noncomputable def vc : TGs := fun vs σ H Q => vs = [] /\ Q σ H
noncomputable def i9 (t : TG) (u : TGs) : TGs := fun vs σ H Q => ∃ v r, vs = v :: r /\ t v σ H fun σ' H' => u r σ' H' Q
theorem pI : PGs X [] vc := by
  intro pins s σ H vs us Q I r h
  obtain ⟨e, h⟩ := h
  subst e
  cases r
  exact assignInOrder_nil ⟨σ, H, I, h⟩
theorem fB {e : Expr} {es : List Expr} {t : TG} {u : TGs} (h1 : PG X e t) (h2 : PGs X es u)
    (hs : (assignEach (e :: es) X.env).map (·.2) = assign e X.env :: (assignEach es X.env).map (·.2) := by rfl) : PGs X (e :: es) (i9 t u) := by
  intro pins s σ H vs us Q I r h
  obtain ⟨v, vr, e1, h⟩ := h
  subst e1
  cases r with
  | cons r rr =>
    rw [hs]
    refine assignInOrder_cons (thn (h1 pins s σ H _ _ _ I r h) fun _ s1 ⟨σ1, H1, I1, q1⟩ => ?_)
    exact h2 pins s1 σ1 H1 _ _ Q I1 rr q1
noncomputable def wx (K : PySem.W.Frag) (n : Nat) (t : TGs) : TG := fun v σ H Q => ∃ a xs, v = .ref a /\ SqT K H a xs /\ xs.length = n /\ t xs σ H Q
theorem rK {es : List Expr} {k : Nat} {t : TGs} {n : Nat} (hc : X.calm = true) (h : PGs X es t)
    (hn : (assignEach es X.env).length = n := by rfl) (hst : (assignEach es X.env).findIdx? (·.1) = none := by rfl) : PG X (.Tuple es k pos) (wx X.K n t) := by
  intro pins s σ H v u Q I r hw
  obtain ⟨a, xs, e1, hq, hl, hw⟩ := hw
  subst e1
  cases r
  obtain ⟨its, rv, ht, hz⟩ := I.tuple hq
  refine assign_Tuple_tuple (I.ok.hd hc) ht (by simp [hn, <- hl, rv.length]) hst fun h' hx => ?_
  have I1 : Inv X pins σ H { s with heap := h' } := I.kept (t' := s.toks) fun b o e => hx b o (Nat.ne_of_lt (Heap.lt_size e)) e
  exact h pins _ σ H xs _ Q I1 (by simpa using rv) hw
noncomputable def DT (to ti : TE) (t : sv) : TG := fun v σ H Q => to σ H fun o H1 => ti σ H1 fun i H2 => t o i v H2 fun H3 => Q σ H3
theorem Bg {o i : Expr} {to ti : TE} {t : sv} (ho : PE X o to) (hi : PE X i ti) (hs : xZ X t)
    (ha : ∀ v, assign (.Subscript o i pos) X.env v = (do
      let ov ← holding [v] (eval o X.env)
      let iv ← holding [v, ov] (eval i X.env)
      standAt pos
      holding [v, ov, iv] (setItem ov iv v)
      release [v, ov, iv] []) := by intro _; rfl) : PG X (.Subscript o i pos) (DT to ti t) := by
  intro pins s σ H v u Q I r h
  rw [ha]
  refine wpAny_bind (wpAny_holding (thn (ho pins s σ H _ I h) fun ov s1 ⟨x, H1, I1, r1, q1⟩ => ?_))
  refine wpAny_bind (wpAny_holding (thn (hi pins s1 σ H1 _ I1 q1) fun iv s2 ⟨y, H2, I2, r2, q2⟩ => ?_))
  refine wpAny_bind (wpAny_standAt (wpAny_bind (wpAny_holding (thn (hs pins s2 σ H2 x y v ov iv u _ I2 r1 r2 r q2) fun _ s3 ⟨H3, I3, q3⟩ => ?_))))
  exact wpAny_release ⟨σ, H3, I3, q3⟩
noncomputable def CI (te : TE) (g : TG) : TS := fun D σ H => te σ H fun x H1 => g x σ H1 D.nx
theorem vy {tg e : Expr} {te : TE} {g : TG} (he : PE X e te) (hg : PG X tg g) (hs : swapsWithSole [tg] e pos.line X.env = pure false := by rfl) (hw : swappedStores [tg] e X.env = pure none := by rfl)
    (h1 : (assignEach [tg] X.env).map (·.2) = [assign tg X.env] := by rfl) : PS X (.Assign [tg] e pos) (CI te g) := by
  intro pins s σ H D I h
  refine wpAny_Assign_stores (thn (he pins s σ H _ I h) fun v s1 ⟨x, H1, I1, r1, q1⟩ => ?_) hs hw
  rw [h1]
  exact thn (hg pins s1 σ H1 x v _ I1 r1 q1) fun _ s2 q => q
theorem Af {i : Nat} {x : Str} {e : Expr} {te : TE} {pos' : Pos} (hN : X.N.Nodup) (hi : X.N[i]? = some x) (hx : Loc X.env.scope x) (he : PE X e te) (hs : swapsWith e (some (.Name x pos')) pos.line X.env = pure false := by rfl) (hf : X.fn x = true \/ X.env.scope.names.lookup x = some .local := by first | exact .inl rfl | exact .inr rfl | assumption) :
    PS X (.Assign [.Name x pos'] e pos) (CI te (fw i)) := by
  intro pins s σ H D I h
  refine wpAny_Assign_Name (thn (he pins s σ H _ I h) fun v s1 ⟨y, H1, I1, r1, q1⟩ => ?_) hs
  exact jk I1 hN hi hx r1 (fun s2 I2 => ⟨_, H1, I2, q1⟩) hf
noncomputable def Dx (i j : Nat) (ta : TA) : TS := fun D σ H => ta σ H fun vs H1 => ∃ v w, vs = [v, w] /\ D.nx ((σ.set i (some v)).set j (some w)) H1
theorem zT {i j : Nat} {x y : Str} {a b : Expr} {ta : TA} {px py pt : Pos} {kt k2 pt2} (hc : X.calm = true) (hN : X.N.Nodup) (hi : X.N[i]? = some x) (hj : X.N[j]? = some y) (hij : i ≠ j)
    (hx : X.env.scope.names.lookup x = some .local) (hy : X.env.scope.names.lookup y = some .local) (ha : PA X [a, b] ta)
    (hw : swappedStores [.Tuple [.Name x px, .Name y py] kt pt] (.Tuple [a, b] k2 pt2) X.env = pure (some [x, y]))
    (hs : swapsWithSole [.Tuple [.Name x px, .Name y py] kt pt] (.Tuple [a, b] k2 pt2) pos.line X.env = pure false := by rfl) :
    PS X (.Assign [.Tuple [.Name x px, .Name y py] kt pt] (.Tuple [a, b] k2 pt2) pos) (Dx i j ta) := by
  intro pins s σ H D I h
  rw [exec_Assign_arm]
  refine wpAny_bind (wpAny_standAt ?_)
  rw [hs]
  refine wpAny_bind (wpAny_pure ?_)
  rw [if_neg (by decide)]
  refine wpAny_bind (Tuple_ (thn (ha _ pins s σ H _ I h) fun us s1 ⟨vs, H1, I1, r1, q1⟩ => ?_))
  obtain ⟨v, w, e1, q1⟩ := q1
  subst e1
  obtain ⟨u1, u2, rfl, rv, rw'⟩ : ∃ u1 u2, us = [u1, u2] /\ RelV v u1 /\ RelV w u2 := by
    cases r1 with
    | cons p q =>
      cases q with
      | cons p' q' =>
        cases q'
        exact ⟨_, _, rfl, p, p'⟩
  refine wpAny_newObj_type ?_ (by show 2 <= sizeLine; decide)
  have I2 : Inv X pins σ H1 { s1 with heap := s1.heap.push { cls := .type "tuple", data := .seq [u1, u2].toArray } } := I1.kept (t' := s1.toks) fun b o e => Heap.get?_push_of_some _ e
  rw [hw]
  refine wpAny_bind (wpAny_pure ?_)
  show wpAny (model X.prog X.w) X.A (do rule "assign.swapped-stores"; let items ← unpackItems (.ref s1.heap.objs.size) 2 none; assignInOrder [fun v => bindName X.env y v, fun v => bindName X.env x v] items.reverse; pure Flow.next) _ _ _
  refine wpAny_bind (wpAny_rule (wpAny_bind (unpackItems_tuple (items := #[u1, u2]) (I.ok.hd hc) (IsTup.new s1.heap _) fun h' hx' => ?_)))
  have I3 := I2.kept (h' := h') (t' := s1.toks) fun b o e => hx' b o (Nat.ne_of_lt (Heap.lt_size e)) e
  show wpAny _ _ (assignInOrder [fun v => bindName X.env y v, fun v => bindName X.env x v] [u2, u1] >>= fun _ => pure Flow.next) _ _ _
  refine wpAny_bind (assignInOrder_cons (wpAny_bindName (jk I3 hN hj (.inl hy) rw' (fun s2 I4 => ?_) (.inr hy))))
  refine assignInOrder_cons (wpAny_bindName (jk I4 hN hi (.inl hx) rv (fun s3 I5 => assignInOrder_nil (wpAny_pure ?_)) (.inr hx)))
  rw [List.set_comm _ _ (Ne.symm hij)] at I5
  exact ⟨_, H1, I5, q1⟩
noncomputable def CV (to ti te : TE) (tget : V -> V -> Hp -> VK -> Prop) (tip : TIp) (tset : sv) : TS := fun D σ H => to σ H fun o H1 => ti σ H1 fun i H2 => tget o i H2 fun x H3 => te σ H3 fun y H4 => tip x y H4 fun z H5 => tset o i z H5 fun H6 => D.nx σ H6
noncomputable def CZ (X : Cx) (t : V -> V -> Hp -> VK -> Prop) : Prop :=
  ∀ (pins : List (Addr × Obj)) (s : Shared) (σ : St) (H : Hp) (o i : V) (ov iv : Value) (Q : VK), Inv X pins σ H s -> RelV o ov -> RelV i iv -> t o i H Q →
    wpAny (model X.prog X.w) X.A (getItem ov iv) (EP X pins σ Q) X.xe s
theorem yq {o i e : Expr} {to ti te : TE} {tget : V -> V -> Hp -> VK -> Prop} {tip : TIp} {tset : sv} {op : Operator} {tpos : Pos} (ho : PE X o to) (hi : PE X i ti) (hg : CZ X tget) (he : PE X e te) (hp : PIp X op tip) (hs : xZ X tset)
    (ha : ∀ ov iv new, augStore i ov iv new = (do holding [new, ov, iv] (setItem ov iv new); release [new, ov, iv] []; pure .next) := by intros; rfl) : PS X (.AugAssign (.Subscript o i tpos) op e pos) (CV to ti te tget tip tset) := by
  intro pins s σ H D I h
  refine wpAny_AugAssign_SubscriptAny (thn (ho pins s σ H _ I h) fun ov s1 ⟨x1, H1, I1, r1, q1⟩ => ?_) ha
  refine thn (hi pins s1 σ H1 _ I1 q1) fun iv s2 ⟨x2, H2, I2, r2, q2⟩ => ?_
  refine thn (hg pins s2 σ H2 x1 x2 ov iv _ I2 r1 r2 q2) fun old s3 ⟨x3, H3, I3, r3, q3⟩ => ?_
  refine thn (he pins s3 σ H3 _ I3 q3) fun v s4 ⟨x4, H4, I4, r4, q4⟩ => ?_
  refine thn (hp pins s4 σ H4 x3 x4 old v _ I4 r3 r4 q4) fun new s5 ⟨x5, H5, I5, r5, q5⟩ => ?_
  exact thn (hs pins s5 σ H5 x1 x2 x5 ov iv new _ I5 r1 r2 r5 q5) fun _ s6 ⟨H6, I6, q6⟩ => ⟨σ, H6, I6, q6⟩
noncomputable def ipI (f : Int -> Int -> Int) : TIp := fun x y H Q => ∃ i j, x = .int i /\ y = .int j /\ Q (.int (f i j)) H
theorem Be : PIp X .Add (ipI fun i j => i + j) := by
  intro pins s σ H x y v u Q I r1 r2 h
  obtain ⟨i, j, e1, e2, q⟩ := h
  subst e1; subst e2
  obtain ⟨t, rfl⟩ := r1
  obtain ⟨t', rfl⟩ := r2
  exact iadd_int ⟨.int _, H, I.tok _, ⟨_, rfl⟩, q⟩
end
section
variable {X : Cx} {pos : Pos}
noncomputable def AV (c : TT) (tb : TS) : TS := fun D σ H => ∃ W : Nat -> St -> Hp -> Prop, (∃ m, W m σ H) /\ ∀ m σ H, W m σ H →
  c σ H fun b H1 => if b = true then ∃ N : St -> Hp -> Prop, (∀ σ' H', N σ' H' -> ∃ m', m' < m /\ W m' σ' H') /\ tb { D with nx := N, ct := N, bk := D.nx } σ H1 else D.nx σ H1
theorem xc {c : Expr} {body : List Stmt} {tc : TT} {tb : TS} (hp : PassesOwn (model X.prog X.w) X.A X.env X.xe) (hc : PT X c tc) (hb : PSs X body tb) : PS X (.While c body [] pos) (AV tc tb) := by
  intro pins s σ H D I h
  obtain ⟨W, ⟨m0, w0⟩, turn⟩ := h
  refine wpAny_While (codeAny_whileLoop (fun n s' => ∃ σ' H', Inv X pins σ' H' s' /\ W n σ' H') ?_ m0 ⟨σ, H, I, w0⟩)
  rintro n s1 ⟨σ1, H1, I1, w1⟩
  refine wpAny_passesOwn hp (thn (hc pins s1 σ1 H1 _ I1 (turn n σ1 H1 w1)) fun b s2 ⟨H2, I2, q2⟩ => ?_)
  cases b with
  | true =>
    obtain ⟨N, hN, q2⟩ := q2
    rw [if_pos rfl]
    refine wpAny_passesOwn hp (thn (hb pins s2 σ1 H2 _ I2 q2) fun f s3 q3 => ?_)
    cases f with
    | next =>
      obtain ⟨σ3, H3, I3, n3⟩ := q3
      obtain ⟨m', hm, w3⟩ := hN σ3 H3 n3
      exact ⟨m', hm, σ3, H3, I3, w3⟩
    | cont =>
      obtain ⟨σ3, H3, I3, n3⟩ := q3
      obtain ⟨m', hm, w3⟩ := hN σ3 H3 n3
      exact ⟨m', hm, σ3, H3, I3, w3⟩
    | brk => exact q3
    | ret v => exact q3
  | false =>
    rw [if_neg Bool.false_ne_true]
    exact wpAny_execs_nil ⟨σ1, H2, I2, q2⟩
end
structure It where
  go : Nat -> Hp -> Prop
  yld : Nat -> Hp -> V -> Hp -> Prop
  stop : Nat -> Hp -> Prop
noncomputable def l7 (X : Cx) (pins : List (Addr × Obj)) (H : Hp) (b : Addr) : Prop :=
  H b = none /\ b ≠ X.env.locals /\ b ∉ X.fs /\ (b ∈ X.ex \/ X.aH.heap.objs.size <= b) /\ (∀ x c, X.env.cells.lookup x = some c -> c ≠ b) /\ ∀ p ∈ X.pn ++ pins, p.1 ≠ b
theorem Inv.wb {X : Cx} {pins : List (Addr × Obj)} {σ : St} {H H' : Hp} {s : Shared} {b : Addr} (I : Inv X pins σ H s) (hb : s.heap.objs.size <= b) (hn : H' b = none) : l7 X pins H' b := by
  refine ⟨hn, Nat.ne_of_gt (Nat.lt_of_lt_of_le I.lt hb), I.B6 hb, .inr (Nat.le_trans I.sz hb), fun x c e z => ?_, fun p hp z => ?_⟩
  · obtain ⟨v, q⟩ := I.cell x c e
    exact absurd (Nat.lt_of_lt_of_le q.lt (by rw [z]; exact hb)) (Nat.lt_irrefl _)
  · exact absurd (Nat.lt_of_lt_of_le (Heap.lt_size (I.pin p hp).1) (by rw [z]; exact hb)) (Nat.lt_irrefl _)
structure Turn (P : Program) (w : World) (K : PySem.W.Frag) (tg : Expr) (J : It) (fp : List Addr) (it : Addr) (tn : Nat -> Heap -> Prop) : Prop where
  mem : it ∈ fp
  obj : ∀ i h, tn i h -> ∀ b ∈ fp, ∃ o, h.get? b = some o /\ ∀ v, o.data ≠ .cell v
  keep : ∀ i h h', tn i h -> (∀ b ∈ fp, ∀ o, h.get? b = some o -> h'.get? b = some o) -> tn i h'
  item : ∀ (X : Cx), X.prog = P -> X.w = w -> X.K = K -> X.calm = true -> ∀ (i : Nat) (pins : List (Addr × Obj)) (s : Shared) (σ : St) (H : Hp) (E : Value -> Shared -> Prop), Inv X pins σ H s -> (∀ b ∈ fp, l7 X pins H b) -> tn i s.heap -> J.go i H →
    wpAny (model P w) X.A (pyNext (.ref it)) (fun r s1 => ∃ u, r = some u ∧
      wpAny (model P w) X.A (letOwnedTupleGo tg (.ref it) u) (fun _ s2 => ∃ x H', Inv X pins σ H' s2 /\ RelV x u /\ J.yld i H x H' /\ tn (i + 1) s2.heap /\ ∀ b ∈ fp, H' b = none) E s1) E s
  done : ∀ (X : Cx), X.prog = P -> X.w = w -> X.K = K -> X.calm = true -> ∀ (i : Nat) (pins : List (Addr × Obj)) (s : Shared) (σ : St) (H : Hp) (E : Value -> Shared -> Prop), Inv X pins σ H s -> (∀ b ∈ fp, l7 X pins H b) -> tn i s.heap -> J.stop i H →
    wpAny (model P w) X.A (pyNext (.ref it)) (fun r s1 => r = none /\ Inv X pins σ H s1) E s
  self : ∀ (A : Around) (i : Nat) (s : Shared) (Q : Value -> Shared -> Prop) (E : Value -> Shared -> Prop), tn i s.heap -> Q (.ref it) s -> wpAny (model P w) A (pyIter (.ref it)) Q E s
noncomputable abbrev TI := St -> Hp -> (It -> Hp -> Prop) -> Prop
noncomputable def PIE (X : Cx) (pins : List (Addr × Obj)) (σ : St) (tg : Expr) (R : It -> Hp -> Prop) (itv : Value) (s2 : Shared) : Prop :=
  ∃ (it : Addr) (fp : List Addr) (tn : Nat -> Heap -> Prop) (J : It) (H' : Hp), itv = .ref it /\ Inv X pins σ H' s2 /\ Turn X.prog X.w X.K tg J fp it tn /\ tn 0 s2.heap /\ (∀ b ∈ fp, l7 X pins H' b) /\ R J H'
noncomputable def PI (X : Cx) (tg iter : Expr) (wi : TI) : Prop :=
  ∀ (pins : List (Addr × Obj)) (s : Shared) (σ : St) (H : Hp) (R : It -> Hp -> Prop), Inv X pins σ H s -> wi σ H R →
    wpAny (model X.prog X.w) X.A (eval iter X.env) (fun v s1 => wpAny (model X.prog X.w) X.A (pyIter v) (PIE X pins σ tg R) X.xe s1) X.xe s
theorem xp {M : Model} {A : Around} {E : Value -> Shared -> Prop} {s : Shared} {tg : Expr} {it : Addr} {u : Value} {o : Obj} {n : String} {vs : Array Value} {Q : Unit -> Shared -> Prop} (ho : s.heap.get? it = some o) (hc : o.cls = .type n) (hd : o.data = .fields vs)
    (hn : ["enumerate", "zip", "dict_itemiterator", "dict_reverseitemiterator", "odict_iterator", "itertools.zip_longest", "itertools.pairwise"].contains n = false) (hQ : Q () s) : wpAny M A (letOwnedTupleGo tg (.ref it) u) Q E s := by
  unfold letOwnedTupleGo
  cases tg <;> first
    | exact wpAny_pure hQ
    | (cases u <;> first
        | exact wpAny_pure hQ
        | (refine wpAny_bind (wpAny_load ho ?_)
           rw [hc, hd]
           show wpAny M A (if (["enumerate", "zip", "dict_itemiterator", "dict_reverseitemiterator", "odict_iterator", "itertools.zip_longest", "itertools.pairwise"].contains n && vs[0]? == some (rawInt _)) = true then _ else _) Q E s
           rw [if_neg (by intro h; rw [hn, Bool.false_and] at h; cases h)]
           exact wpAny_pure hQ))
noncomputable def Itl (K : PySem.W.Frag) (a : Addr) : It :=
  ⟨fun i H => ∃ xs x, SqL K H a xs /\ xs[i]? = some x, fun i H x H' => H' = H /\ ∀ xs, SqL K H a xs -> xs[i]? = some x, fun i H => ∃ xs, SqL K H a xs /\ xs.length <= i⟩
noncomputable def Itt (K : PySem.W.Frag) (a : Addr) : It :=
  ⟨fun i H => ∃ xs x, SqT K H a xs /\ xs[i]? = some x, fun i H x H' => H' = H /\ ∀ xs, SqT K H a xs -> xs[i]? = some x, fun i H => ∃ xs, SqT K H a xs /\ xs.length <= i⟩
noncomputable def Itr (lo : Int) (n : Nat) : It := ⟨fun i _ => i < n, fun i H x H' => H' = H /\ x = .int (lo + i), fun i _ => n <= i⟩
theorem uF {P : Program} {w : World} {K : PySem.W.Frag} {tg : Expr} (a it : Addr) : Turn P w K tg (Itl K a) [it] it (fun i h => h.IsListIter it a i) where
  mem := by simp
  obj := fun i h st b hb => by
    have e : b = it := by simpa using hb
    subst e
    obtain ⟨o, e, c, d⟩ := st
    exact ⟨o, e, fun v z => by rw [d] at z; cases z⟩
  keep := fun i h h' st k => st.at fun o e => k it (by simp) o e
  item := by
    intro X hP hw hK hc i pins s σ H E I hf st hg
    subst hP hw hK
    obtain ⟨xs, x, hq, hx⟩ := hg
    obtain ⟨its, rv, p, hz⟩ := I.list hq
    obtain ⟨u, hu, ru⟩ := rv.get hx
    obtain ⟨f0, f1, f2, f3, f4, f5⟩ := hf it (by simp)
    refine wpAny_pyNext_list_item st p.isList (x := u) (by simpa using hu) fun h' st' sb => ?_
    have I1 : Inv X pins σ H { s with heap := h' } := I.turned (t' := s.toks) (fun b o hb e => (sb.2 b hb).trans e) f0 f1 f3 f4 f5
    obtain ⟨o, e, c, d⟩ := id st'
    exact ⟨u, rfl, xp (s := { s with heap := h' }) e c d (by decide) ⟨x, H, I1, ru, ⟨rfl, fun ys hy => by rw [I.hJ hy hq]; exact hx⟩, st', fun b hb => (hf b hb).1⟩⟩
  done := by
    intro X hP hw hK hc i pins s σ H E I hf st hg
    subst hP hw hK
    obtain ⟨xs, hq, hx⟩ := hg
    obtain ⟨its, rv, p, hz⟩ := I.list hq
    obtain ⟨f0, f1, f2, f3, f4, f5⟩ := hf it (by simp)
    have hl := rv.length
    exact wpAny_pyNext_list_end (I.ok.hd hc) st p.isList (by simp; omega) fun h' eb => ⟨rfl, I.turned (t' := s.toks) (fun b o hb e => eb b o hb e) f0 f1 f3 f4 f5⟩
  self := fun _ _ _ _ _ st h => wpAny_pyIter_listiter st h
theorem se {P : Program} {w : World} {K : PySem.W.Frag} {tg : Expr} (a it : Addr) : Turn P w K tg (Itt K a) [it] it (fun i h => h.IsTupleIter it a i) where
  mem := by simp
  obj := fun i h st b hb => by
    have e : b = it := by simpa using hb
    subst e
    obtain ⟨o, e, c, d⟩ := st
    exact ⟨o, e, fun v z => by rw [d] at z; cases z⟩
  keep := fun i h h' st k => st.at fun o e => k it (by simp) o e
  item := by
    intro X hP hw hK hc i pins s σ H E I hf st hg
    subst hP hw hK
    obtain ⟨xs, x, hq, hx⟩ := hg
    obtain ⟨its, rv, p, hz⟩ := I.tuple hq
    obtain ⟨u, hu, ru⟩ := rv.get hx
    obtain ⟨f0, f1, f2, f3, f4, f5⟩ := hf it (by simp)
    refine wpAny_pyNext_tuple_item st (show s.heap.IsTuple a its.toArray from p) (x := u) (by simpa using hu) fun h' st' sb => ?_
    have I1 : Inv X pins σ H { s with heap := h' } := I.turned (t' := s.toks) (fun b o hb e => (sb.2 b hb).trans e) f0 f1 f3 f4 f5
    obtain ⟨o, e, c, d⟩ := id st'
    exact ⟨u, rfl, xp (s := { s with heap := h' }) e c d (by decide) ⟨x, H, I1, ru, ⟨rfl, fun ys hy => by rw [I.fA hy hq]; exact hx⟩, st', fun b hb => (hf b hb).1⟩⟩
  done := by
    intro X hP hw hK hc i pins s σ H E I hf st hg
    subst hP hw hK
    obtain ⟨xs, hq, hx⟩ := hg
    obtain ⟨its, rv, p, hz⟩ := I.tuple hq
    obtain ⟨f0, f1, f2, f3, f4, f5⟩ := hf it (by simp)
    have hl := rv.length
    exact wpAny_pyNext_tuple_end (I.ok.hd hc) st (show s.heap.IsTuple a its.toArray from p) (by simp; omega) fun h' eb => ⟨rfl, I.turned (t' := s.toks) (fun b o hb e => eb b o hb e) f0 f1 f3 f4 f5⟩
  self := fun _ _ _ _ _ st h => wpAny_pyIter_tupleiter st h
theorem rE {P : Program} {w : World} {K : PySem.W.Frag} {tg : Expr} (it : Addr) (lo : Int) (n : Nat) : Turn P w K tg (Itr lo n) [it] it (fun i h => IsRangeIter h it (lo + (i : Nat) * 1) ((n : Int) - (i : Nat)) 1) where
  mem := by simp
  obj := fun i h st b hb => by
    have e : b = it := by simpa using hb
    subst e
    exact ⟨_, st, fun v z => by
      have z' : Data.fields _ = Data.cell v := z
      cases z'⟩
  keep := fun i h h' st k => k it (by simp) _ st
  item := by
    intro X hP hw hK hc i pins s σ H E I hf st hg
    subst hP hw hK
    obtain ⟨f0, f1, f2, f3, f4, f5⟩ := hf it (by simp)
    have W := Walks.range (prog := X.prog) (w := X.w) (I.ok.hd hc) it lo 1 n
    refine W.item i s _ _ hg st fun v h' tk hv st' kk => ?_
    obtain ⟨t, rfl⟩ := hv
    have I1 : Inv X pins σ H { s with heap := h', toks := tk } := I.turned (fun b o hb e => kk b o (by simpa using hb) e) f0 f1 f3 f4 f5
    refine ⟨_, rfl, xp (s := { s with heap := h', toks := tk }) (n := "range_iterator") st' rfl rfl (by decide) ⟨.int (lo + i), H, I1, ⟨t, ?_⟩, ⟨rfl, rfl⟩, st', fun b hb => (hf b hb).1⟩⟩
    rw [Int.mul_one]
  done := by
    intro X hP hw hK hc i pins s σ H E I hf st hg
    subst hP hw hK
    obtain ⟨f0, f1, f2, f3, f4, f5⟩ := hf it (by simp)
    exact wpAny_pyNext_range_end (I.ok.hd hc) st (by have : n <= i := hg; omega) fun h' eb => ⟨rfl, I.turned (t' := s.toks) (fun b o hb e => eb b o hb e) f0 f1 f3 f4 f5⟩
  self := fun _ _ _ _ _ st h => wpAny_pyIter_rangeiter st h
section
variable {X : Cx} {tg : Expr}
theorem uX {pins : List (Addr × Obj)} {σ : St} {H : Hp} {s : Shared} {R : It -> Hp -> Prop} {E : Value -> Shared -> Prop} {lo hi : Int} {t u v : Tok} {tk : Nat} (I : Inv X pins σ H s) (h1 : -(2 ^ 62) <= lo) (h2 : lo < 2 ^ 62) (h3 : -(2 ^ 62) <= hi) (h4 : hi < 2 ^ 62)
    (q : R (Itr lo (hi - lo).toNat) H) : wpAny (model X.prog X.w) X.A (pyIter (.ref s.heap.objs.size)) (PIE X pins σ tg R) E { s with heap := s.heap.push { cls := .type "range", data := .fields #[.int lo t, .int hi u, .int 1 v] }, toks := tk } := by
  refine wpAny_pyIter_range (IsRange.new ..) (small_one h1 h2 h3 h4) ?_
  have I1 : Inv X pins σ H { s with heap := s.heap.push { cls := .type "range", data := .fields #[.int lo t, .int hi u, .int 1 v] }, toks := tk } := I.kept fun b o e => Heap.get?_push_of_some _ e
  refine ⟨(s.heap.push { cls := .type "range", data := .fields #[.int lo t, .int hi u, .int 1 v] }).objs.size, [(s.heap.push { cls := .type "range", data := .fields #[.int lo t, .int hi u, .int 1 v] }).objs.size], _, _, H, rfl,
    I1.kept (t' := tk) fun b o e => Heap.get?_push_of_some _ e, rE _ lo (hi - lo).toNat, ?_, fun b hb => ?_, q⟩
  · have e1 : lo + ((0 : Nat) : Int) * 1 = lo := by simp
    have e2 : (((hi - lo).toNat : Nat) : Int) - ((0 : Nat) : Int) = Builtin.Range.rangeSize lo hi 1 := by rw [rangeSize_one]; split <;> omega
    show IsRangeIter _ _ (lo + ((0 : Nat) : Int) * 1) ((((hi - lo).toNat : Nat) : Int) - ((0 : Nat) : Int)) 1
    rw [e1, e2]
    exact Heap.get?_push_size _ rfl
  · have e : b = (s.heap.push { cls := .type "range", data := .fields #[.int lo t, .int hi u, .int 1 v] }).objs.size := by simpa using hb
    subst e
    exact I1.wb (Nat.le_refl _) (I1.hok.fresh (Nat.le_refl _))
noncomputable def BK (ta : TA) : TI := fun σ H R => ta σ H fun vs H1 => ∃ j : Int, vs = [.int j] /\ -(2 ^ 62) <= j /\ j < 2 ^ 62 /\ R (Itr 0 j.toNat) H1
theorem tI {a : Expr} {ta : TA} {p pos : Pos} (hg : Gl X "range") (hm : X.mg "range" = none) (ha : PA X [a] ta) (hs : starEach [a] X.env = [(false, eval a X.env)] := by rfl) : PI X tg (.Call (.Name "range" p) [a] [] pos) (BK ta) := by
  intro pins s σ H R I h
  refine Call_ (jG I hg hm boot_range (PyProof.Rows.callWith_type1 (thn (ha pos pins s σ H _ I h) fun us s1 ⟨vs, H1, I1, r1, q1⟩ => ?_) hs rfl))
  obtain ⟨j, e, q1, q2, q⟩ := q1
  subst e
  cases r1 with
  | cons r rr =>
    cases rr
    obtain ⟨t, rfl⟩ := r
    exact call_range_1 (uX I1 (by omega) (by omega) q1 q2 (by simpa using q))
noncomputable def Dz (wi : TI) (g : TG) (tb : TS) : TS := fun D σ H => wi σ H fun J H1 => ∃ W : Nat -> Nat -> St -> Hp -> Prop, (∃ m, W 0 m σ H1) /\ ∀ i m σ H, W i m σ H →
  (J.stop i H /\ D.nx σ H) \/ (J.go i H /\ ∃ N : St -> Hp -> Prop, (∀ σ' H', N σ' H' -> ∃ m', m' < m /\ W (i + 1) m' σ' H') /\ ∀ x H', J.yld i H x H' -> g x σ H' fun σ2 H2 => tb { D with nx := N, ct := N, bk := D.nx } σ2 H2)
noncomputable def lZ (fp : List Addr) (h : Heap) : List (Addr × Obj) := fp.filterMap fun b => (h.get? b).map fun o => (b, o)
theorem fZ {fp : List Addr} {h : Heap} {b : Addr} {o : Obj} (hb : b ∈ fp) (e : h.get? b = some o) : (b, o) ∈ lZ fp h := List.mem_filterMap.mpr ⟨b, hb, by rw [e]; rfl⟩
theorem uH {fp : List Addr} {h : Heap} {p : Addr × Obj} (hp : p ∈ lZ fp h) : p.1 ∈ fp /\ h.get? p.1 = some p.2 := by
  obtain ⟨b, hb, e⟩ := List.mem_filterMap.mp hp
  cases q : h.get? b with
  | none => rw [q] at e; cases e
  | some o =>
    rw [q] at e
    have e' : (b, o) = p := Option.some.inj e
    subst e'
    exact ⟨hb, q⟩
theorem Inv.pinned {pins : List (Addr × Obj)} {σ : St} {H : Hp} {s : Shared} {fp : List Addr} (I : Inv X pins σ H s) (hf : ∀ b ∈ fp, l7 X pins H b) (ho : ∀ b ∈ fp, ∃ o, s.heap.get? b = some o /\ ∀ v, o.data ≠ .cell v) : Inv X (pins ++ lZ fp s.heap) σ H s :=
  I.kJ fun p hp => (List.mem_append.mp hp).elim (fun z => I.pin p (List.mem_append_right _ z)) fun z => by
    obtain ⟨hb, e⟩ := uH z
    obtain ⟨f0, f1, f2, _⟩ := hf p.1 hb
    obtain ⟨o, e', d⟩ := ho p.1 hb
    rw [e] at e'; cases e'
    exact ⟨e, f0, f1, f2, d⟩
theorem Inv.jd {pins pl : List (Addr × Obj)} {σ : St} {H : Hp} {s : Shared} (I : Inv X (pins ++ pl) σ H s) : Inv X pins σ H s := I.kJ fun p hp => I.pin p (List.mem_append_right _ (List.mem_append_left _ hp))
theorem zX {iter : Expr} {body : List Stmt} {wi : TI} {g : TG} {tb : TS} {pos : Pos} (hp : PassesOwn (model X.prog X.w) X.A X.env X.xe) (hc : X.calm = true) (hi : PI X tg iter wi) (hg : PG X tg g) (hb : PSs X body tb)
    (hs : ∀ x, foldedSetIterable iter X.env x = pure x := by intro _; rfl) : PS X (.For tg iter body [] pos) (Dz wi g tb) := by
  intro pins s σ H D I h
  refine wpAny_For (thn (hi pins s σ H _ I h) fun v s1 h1 => thn h1 fun itv s2 h2 => ?_) hs
  obtain ⟨it, fp, tn, J, H2, e, I2, T, st2, f2, W, ⟨m0, w0⟩, turn⟩ := h2
  subst e
  -- what stays true of the iterator's objects through the loop
  have stat : ∀ {H' : Hp}, (∀ b ∈ fp, H' b = none) -> ∀ b ∈ fp, l7 X pins H' b := fun hn b hb => ⟨hn b hb, (f2 b hb).2⟩
  refine codeAny_forLoop_any (fun n s' => ∃ i σ' H', Inv X pins σ' H' s' /\ tn i s'.heap /\ (∀ b ∈ fp, H' b = none) /\ W i n σ' H') ?_ m0 ⟨0, σ, H2, I2, st2, fun b hb => (f2 b hb).1, w0⟩
  rintro n s3 ⟨i, σ3, H3, I3, st3, fr3, w3⟩
  rcases turn i n σ3 H3 w3 with ⟨stop, qn⟩ | ⟨go, N, hN, step⟩
  · refine wpAny_passesOwn hp (thn (T.done X rfl rfl rfl hc i pins s3 σ3 H3 X.xe I3 (stat fr3) st3 stop) fun r s4 ⟨hr, I4⟩ => ?_)
    subst hr
    exact wpAny_execs_nil ⟨σ3, H3, I4, qn⟩
  · refine wpAny_passesOwn hp (thn (T.item X rfl rfl rfl hc i pins s3 σ3 H3 X.xe I3 (stat fr3) st3 go) fun r s4 ⟨u, hr, h4⟩ => ?_)
    subst hr
    refine wpAny_passesOwn hp (thn h4 fun _ s5 ⟨x, H5, I5, r5, y5, st5, fr5⟩ => ?_)
    have I5' := I5.pinned (stat fr5) (T.obj _ _ st5)
    refine wpAny_passesOwn hp (thn (hg _ s5 σ3 H5 x u _ I5' r5 (step x H5 y5)) fun _ s6 ⟨σ6, H6, I6, q6⟩ => ?_)
    refine wpAny_passesOwn hp (thn (hb _ s6 σ6 H6 _ I6 q6) fun f s7 q7 => ?_)
    have again : ∀ {σ7 : St} {H7 : Hp}, Inv X (pins ++ lZ fp s5.heap) σ7 H7 s7 -> N σ7 H7 -> ∃ m, m < n /\ ∃ i σ' H', Inv X pins σ' H' s7 /\ tn i s7.heap /\ (∀ b ∈ fp, H' b = none) /\ W i m σ' H' := fun {σ7 H7} I7 n7 => by
      obtain ⟨m', hm, w7⟩ := hN σ7 H7 n7
      refine ⟨m', hm, i + 1, σ7, H7, I7.jd, T.keep _ _ _ st5 fun b hb o e => (I7.pin (b, o) (List.mem_append_right _ (List.mem_append_right _ (fZ hb e)))).1, fun b hb => ?_, w7⟩
      obtain ⟨o, e, d⟩ := T.obj _ _ st5 b hb
      exact (I7.pin (b, o) (List.mem_append_right _ (List.mem_append_right _ (fZ hb e)))).2.1
    cases f with
    | next => obtain ⟨σ7, H7, I7, n7⟩ := q7; exact again I7 n7
    | cont => obtain ⟨σ7, H7, I7, n7⟩ := q7; exact again I7 n7
    | brk => obtain ⟨σ7, H7, I7, q7⟩ := q7; exact ⟨σ7, H7, I7.jd, q7⟩
    | ret v => obtain ⟨x7, σ7, H7, I7, r7, q7⟩ := q7; exact ⟨x7, σ7, H7, I7.jd, r7, q7⟩
end
noncomputable abbrev R2 := V -> V -> Hp -> VK -> Prop
noncomputable def OpR (X : Cx) (f : Value -> Value -> Sem Value) (r : R2) : Prop :=
  ∀ (pins : List (Addr × Obj)) (s : Shared) (σ : St) (H : Hp) (x y : V) (v u : Value) (Q : VK), Inv X pins σ H s -> RelV x v -> RelV y u -> r x y H Q →
    wpAny (model X.prog X.w) X.A (f v u) (EP X pins σ Q) X.xe s
noncomputable def UnR (X : Cx) (f : Value -> Sem Value) (r : V -> Hp -> VK -> Prop) : Prop :=
  ∀ (pins : List (Addr × Obj)) (s : Shared) (σ : St) (H : Hp) (x : V) (v : Value) (Q : VK), Inv X pins σ H s -> RelV x v -> r x H Q →
    wpAny (model X.prog X.w) X.A (f v) (EP X pins σ Q) X.xe s
noncomputable def bu (X : Cx) (f : Value) (r : List V -> Hp -> VK -> Prop) : Prop :=
  ∀ (pins : List (Addr × Obj)) (s : Shared) (σ : St) (H : Hp) (xs : List V) (us : List Value) (Q : VK), Inv X pins σ H s -> Vals xs us -> r xs H Q →
    wpAny (model X.prog X.w) X.A (call f us) (EP X pins σ Q) X.xe s
noncomputable def DP (X : Cx) (r : V -> Hp -> (Bool -> Hp -> Prop) -> Prop) : Prop :=
  ∀ (pins : List (Addr × Obj)) (s : Shared) (σ : St) (H : Hp) (x : V) (v : Value) (Q : Bool -> Hp -> Prop), Inv X pins σ H s -> RelV x v -> r x H Q →
    wpAny (model X.prog X.w) X.A (truthy v) (TP X pins σ Q) X.xe s
noncomputable def tOp (r : R2) (ta tb : TE) : TE := fun σ H Q => ta σ H fun x H1 => tb σ H1 fun y H2 => r x y H2 Q
noncomputable def tUn (r : V -> Hp -> VK -> Prop) (ta : TE) : TE := fun σ H Q => ta σ H fun x H1 => r x H1 Q
noncomputable def rI (C : Int -> Int -> Prop) (g : Int -> Int -> V) : R2 := fun x y H Q => ∃ i j, x = .int i /\ y = .int j /\ C i j /\ Q (g i j) H
noncomputable def rI0 (g : Int -> Int -> V) : R2 := fun x y H Q => ∃ i j, x = .int i /\ y = .int j /\ Q (g i j) H
noncomputable def rU (g : Int -> V) : V -> Hp -> VK -> Prop := fun x H Q => ∃ i, x = .int i /\ Q (g i) H
section
variable {X : Cx} {a b c : Expr} {ta tb tc : TE} {pos : Pos}
theorem A5 (ha : PE X a ta) (hb : PE X b tb) {pins : List (Addr × Obj)} {s : Shared} {σ : St} {H : Hp} {R : V -> V -> Hp -> Prop} (I : Inv X pins σ H s)
    (h : ta σ H fun x H1 => tb σ H1 fun y H2 => R x y H2) {Q : Value -> Shared -> Prop} {f : Value -> Value -> Sem Value}
    (hf : ∀ v u s2 x y H2, Inv X pins σ H2 s2 -> RelV x v -> RelV y u -> R x y H2 -> wpAny (model X.prog X.w) X.A (f v u) Q X.xe s2) :
    wpAny (model X.prog X.w) X.A (eval a X.env) (fun v s₁ => wpAny (model X.prog X.w) X.A (eval b X.env) (fun u s₂ => wpAny (model X.prog X.w) X.A (f v u) Q X.xe s₂) X.xe s₁) X.xe s := by
  refine thn (ha pins s σ H _ I h) fun v s1 ⟨x, H1, I1, r1, q1⟩ => ?_
  refine thn (hb pins s1 σ H1 _ I1 q1) fun u s2 ⟨y, H2, I2, r2, q2⟩ => ?_
  exact hf v u s2 x y H2 I2 r1 r2 q2
theorem Cd {op : Operator} {r : R2} (ho : OpR X (binaryOp op) r) (ha : PE X a ta) (hb : PE X b tb) : PE X (.BinOp a op b pos) (tOp r ta tb) := by
  intro pins s σ H Q I h
  exact wpAny_BinOp (A5 ha hb I h fun v u s2 x y H2 I2 rx ry q => ho pins s2 σ H2 x y v u Q I2 rx ry q)
theorem CU {op : UnaryOp} {r : V -> Hp -> VK -> Prop} (ho : UnR X (unaryOp op) r) (ha : PE X a ta) : PE X (.UnaryOp op a pos) (tUn r ta) := by
  intro pins s σ H Q I h
  exact UnaryOp_ (thn (ha pins s σ H _ I h) fun v s1 ⟨x, H1, I1, r1, q1⟩ => ho pins s1 σ H1 x v Q I1 r1 q1)
theorem opI {f : Value -> Value -> Sem Value} {C : Int -> Int -> Prop} {g : Int -> Int -> Int}
    (rule : ∀ (i j : Int) (t u : Tok) (s : Shared) (Q : Value -> Shared -> Prop) (E : Value -> Shared -> Prop), C i j -> Q (.int (g i j) s.toks) { s with toks := s.toks + 1 } -> wpAny (model X.prog X.w) X.A (f (.int i t) (.int j u)) Q E s) :
    OpR X f (rI C fun i j => .int (g i j)) := by
  intro pins s σ H x y v u Q I rx ry h
  obtain ⟨i, j, rfl, rfl, hc, q⟩ := h
  obtain ⟨t, rfl⟩ := rx
  obtain ⟨t', rfl⟩ := ry
  exact rule i j t t' s _ _ hc ⟨.int (g i j), H, I.tok _, ⟨_, rfl⟩, q⟩
theorem Cn {f : Value -> Value -> Sem Value} {g : Int -> Int -> Int}
    (rule : ∀ (i j : Int) (t u : Tok) (s : Shared) (Q : Value -> Shared -> Prop) (E : Value -> Shared -> Prop), Q (.int (g i j) s.toks) { s with toks := s.toks + 1 } -> wpAny (model X.prog X.w) X.A (f (.int i t) (.int j u)) Q E s) :
    OpR X f (rI0 fun i j => .int (g i j)) := by
  intro pins s σ H x y v u Q I rx ry h
  obtain ⟨i, j, rfl, rfl, q⟩ := h
  obtain ⟨t, rfl⟩ := rx
  obtain ⟨t', rfl⟩ := ry
  exact rule i j t t' s _ _ ⟨.int (g i j), H, I.tok _, ⟨_, rfl⟩, q⟩
theorem yu {f : Value -> Value -> Sem Value} {g : Int -> Int -> Bool}
    (rule : ∀ (i j : Int) (t u : Tok) (s : Shared) (Q : Value -> Shared -> Prop) (E : Value -> Shared -> Prop), Q (.bool (g i j)) s -> wpAny (model X.prog X.w) X.A (f (.int i t) (.int j u)) Q E s) :
    OpR X f (rI0 fun i j => .bl (g i j)) := by
  intro pins s σ H x y v u Q I rx ry h
  obtain ⟨i, j, rfl, rfl, q⟩ := h
  obtain ⟨t, rfl⟩ := rx
  obtain ⟨t', rfl⟩ := ry
  exact rule i j t t' s _ _ ⟨.bl (g i j), H, I, rfl, q⟩
theorem Bk : OpR X (binaryOp .Add) (rI0 fun i j => .int (i + j)) := Cn fun _ _ _ _ _ _ _ q => add_int q
theorem ef : OpR X (binaryOp .Sub) (rI0 fun i j => .int (i - j)) := Cn fun _ _ _ _ _ _ _ q => sub_int q
theorem lG : OpR X (binaryOp .Mod) (rI (fun _ j => 0 < j) fun i j => .int (i % j)) := opI fun i j _ _ _ _ _ hc q => by
  have h1 : (0 : Int) < j := hc
  exact mod_int' (by omega) (by rw [Int.fmod_eq_emod_of_nonneg i (by omega)]; exact q)
theorem unI {f : Value -> Sem Value} {g : Int -> Int}
    (rule : ∀ (i : Int) (t : Tok) (s : Shared) (Q : Value -> Shared -> Prop) (E : Value -> Shared -> Prop), Q (.int (g i) s.toks) { s with toks := s.toks + 1 } -> wpAny (model X.prog X.w) X.A (f (.int i t)) Q E s) :
    UnR X f (rU fun i => .int (g i)) := by
  intro pins s σ H x v Q I rx h
  obtain ⟨i, rfl, q⟩ := h
  obtain ⟨t, rfl⟩ := rx
  exact rule i t s _ _ ⟨.int (g i), H, I.tok _, ⟨_, rfl⟩, q⟩
theorem zV : UnR X (unaryOp .USub) (rU fun i => .int (-i)) := unI fun _ _ _ _ _ q => neg_int q
end
section
variable {X : Cx} {a b c : Expr} {ta tb tc : TE} {pos : Pos}
theorem vq : OpR X (compareOp .Lt) (rI0 fun i j => .bl (decide (i < j))) := yu fun _ _ _ _ _ _ _ q => lt_int q
theorem nU : OpR X (compareOp .LtE) (rI0 fun i j => .bl (decide (i <= j))) := yu fun _ _ _ _ _ _ _ q => le_int q
theorem vB : OpR X (compareOp .Gt) (rI0 fun i j => .bl (decide (j < i))) := yu fun _ _ _ _ _ _ _ q => gt_int q
theorem CM : OpR X (compareOp .GtE) (rI0 fun i j => .bl (decide (j <= i))) := yu fun _ _ _ _ _ _ _ q => ge_int q
theorem cA (b : Expr) {op : CmpOp} (h : op ≠ .In := by decide) (h2 : op ≠ .NotIn := by decide) : behindInMarks op b = false := by
  have e1 : (op == CmpOp.In) = false := by cases op <;> first | rfl | exact absurd rfl h
  have e2 : (op == CmpOp.NotIn) = false := by cases op <;> first | rfl | exact absurd rfl h2
  cases b <;> simp [behindInMarks, e1, e2]
theorem zk {op : CmpOp} {r : R2} (ho : OpR X (compareOp op) r) (ha : PE X a ta) (hb : PE X b tb) (hm : behindInMarks op b = false) : PE X (.Compare a [op] [b] pos) (tOp r ta tb) := by
  intro pins s σ H Q I h
  exact wpAny_Compare1 (A5 ha hb I h fun v u s2 x y H2 I2 rx ry q => ho pins s2 σ H2 x y v u Q I2 rx ry q) hm
noncomputable def xq (t : TE) : TT := fun σ H Q => t σ H fun x H' => ∃ k, x = .bl k /\ Q k H'
theorem zt {op : CmpOp} {r : R2} (ho : OpR X (compareOp op) r) (ha : PE X a ta) (hb : PE X b tb) (hm : behindInMarks op b = false) : PT X (.Compare a [op] [b] pos) (xq (tOp r ta tb)) := by
  intro pins s σ H Q I h
  refine wpAny_isTrue_Compare1 (thn (ha pins s σ H _ I h) fun v s1 ⟨x, H1, I1, r1, q1⟩ => thn (hb pins s1 σ H1 _ I1 q1) fun u s2 ⟨y, H2, I2, r2, q2⟩ =>
    thn (ho pins s2 σ H2 x y v u _ I2 r1 r2 q2) fun c s3 ⟨z, H3, I3, r3, k, e, q3⟩ => ?_) hm
  subst e
  cases r3
  exact wpAny_truthy_bool ⟨H3, I3, q3⟩
noncomputable def sk (r r' : R2) (ta tb tc : TE) : TE := fun σ H Q => ta σ H fun x H1 => tb σ H1 fun y H2 => r x y H2 fun z H3 => ∃ k, z = .bl k ∧
  (if k = true then tc σ H3 fun w' H4 => r' y w' H4 Q else Q (.bl false) H3)
theorem vh {op op' : CmpOp} {r r' : R2} (ho : OpR X (compareOp op) r) (ho' : OpR X (compareOp op') r') (ha : PE X a ta) (hb : PE X b tb) (hc : PE X c tc)
    (hm : lastMarks [op, op'] [b, c] = false := by with_unfolding_all rfl) : PE X (.Compare a [op, op'] [b, c] pos) (sk r r' ta tb tc) := by
  intro pins s σ H Q I h
  refine Compare_chain (thn (ha pins s σ H _ I h) fun v s1 ⟨x, H1, I1, r1, q1⟩ => chain_link (thn (hb pins s1 σ H1 _ I1 q1) fun u s2 ⟨y, H2, I2, r2, q2⟩ =>
    thn (ho pins s2 σ H2 x y v u _ I2 r1 r2 q2) fun d s3 ⟨z, H3, I3, r3, k, e, q3⟩ => ?_)) hm
  subst e
  cases r3
  refine wpAny_truthy_bool ?_
  cases k with
  | false => exact ite_ff ⟨.bl false, H3, I3, rfl, q3⟩
  | true => exact ite_tt (chain_last (thn (hc pins s3 σ H3 _ I3 q3) fun w' s4 ⟨z', H4, I4, r4, q4⟩ => ho' pins s4 σ H4 y z' u w' Q I4 r2 r4 q4))
theorem vZ {op op' : CmpOp} {r r' : R2} (ho : OpR X (compareOp op) r) (ho' : OpR X (compareOp op') r') (ha : PE X a ta) (hb : PE X b tb) (hc : PE X c tc)
    (hm : lastMarks [op, op'] [b, c] = false := by with_unfolding_all rfl) : PT X (.Compare a [op, op'] [b, c] pos) (xq (sk r r' ta tb tc)) := by
  intro pins s σ H Q I h
  refine isTrue_chain (thn (ha pins s σ H _ I h) fun v s1 ⟨x, H1, I1, r1, q1⟩ => test_link (thn (hb pins s1 σ H1 _ I1 q1) fun u s2 ⟨y, H2, I2, r2, q2⟩ =>
    thn (ho pins s2 σ H2 x y v u _ I2 r1 r2 q2) fun d s3 ⟨z, H3, I3, r3, k, e, q3⟩ => ?_)) hm
  subst e
  cases r3
  refine wpAny_truthy_bool ?_
  cases k with
  | false =>
    obtain ⟨k', e', q'⟩ := q3
    cases e'
    exact ite_ff ⟨H3, I3, q'⟩
  | true =>
    refine ite_tt (test_last (thn (hc pins s3 σ H3 _ I3 q3) fun w' s4 ⟨z', H4, I4, r4, q4⟩ => thn (ho' pins s4 σ H4 y z' u w' _ I4 r2 r4 q4) fun d' s5 ⟨z2, H5, I5, r5, k2, e2, q5⟩ => ?_))
    subst e2
    cases r5
    exact wpAny_truthy_bool ⟨H5, I5, q5⟩
noncomputable def yD (K : PySem.W.Frag) (x : V) (H : Hp) (k : Bool) : Prop :=
  match x with
  | .non => k = false
  | .bl b => k = b
  | .int i => k = (i != 0)
  | .str y => y.length <= sizeLine /\ k = ((y.length : Int) != 0)
  | .byt y => y.size <= sizeLine /\ k = ((y.size : Int) != 0)
  | .ref p => (∃ xs, SqL K H p xs /\ k = !xs.isEmpty) \/ (∃ xs, SqT K H p xs /\ k = !xs.isEmpty) \/ ∃ kvs, H p = some (.dK kvs) /\ k = !kvs.isEmpty
  | _ => False
theorem rP {κ : Type} {kvs : List (κ × V)} {vs : List (κ × Value)} (r : KV kvs vs) : (!vs.isEmpty) = !kvs.isEmpty := by
  cases r <;> rfl
theorem lY {xs : List V} {its : List Value} (r : Vals xs its) : (!its.toArray.isEmpty) = !xs.isEmpty := by
  cases r <;> simp
theorem gT : (sizeLine : Nat) < 2 ^ 63 := by rw [sizeLine_eq]; decide
theorem Ao : DP X (fun x H Q => ∃ k, yD X.K x H k /\ Q k H) := by
  intro pins s σ H x v Q I rx h
  obtain ⟨k, e, q⟩ := h
  have hl := gT
  have hs : sizeLine = 16777216 := sizeLine_eq
  cases x with
  | non =>
    cases rx
    have e' : k = false := e
    subst e'
    exact truthy_none ⟨H, I, q⟩
  | bl b =>
    cases rx
    have e' : k = b := e
    subst e'
    exact wpAny_truthy_bool ⟨H, I, q⟩
  | int i =>
    obtain ⟨t, rfl⟩ := rx
    have e' : k = (i != 0) := e
    subst e'
    exact PySem.P.truthy_int ⟨H, I, q⟩
  | str y =>
    obtain ⟨t, rfl⟩ := rx
    obtain ⟨hy, e'⟩ : y.length <= sizeLine /\ k = ((y.length : Int) != 0) := e
    subst e'
    exact PySem.P.truthy_str (by omega) ⟨H, I.tok _, q⟩
  | byt y =>
    obtain ⟨t, rfl⟩ := rx
    obtain ⟨hy, e'⟩ : y.size <= sizeLine /\ k = ((y.size : Int) != 0) := e
    subst e'
    exact PySem.W.truthy_bytes (by omega) ⟨H, I.tok _, q⟩
  | ref p =>
    cases rx
    have e' : (∃ xs, SqL X.K H p xs /\ k = !xs.isEmpty) \/ (∃ xs, SqT X.K H p xs /\ k = !xs.isEmpty) \/ ∃ kvs, H p = some (.dK kvs) /\ k = !kvs.isEmpty := e
    rcases e' with ⟨xs, hx, e'⟩ | ⟨xs, hx, e'⟩ | ⟨kvs, hx, e'⟩
    · subst e'
      obtain ⟨its, r, pl, hz⟩ := I.list hx
      have hlen := r.length
      exact wpAny_truthy_list pl.isList (by simp only [List.size_toArray]; omega) ⟨H, I.tok _, by rw [lY r]; exact q⟩
    · subst e'
      obtain ⟨its, r, pl, hz⟩ := I.tuple hx
      have hlen := r.length
      exact truthy_tuple pl (by simp only [List.size_toArray]; omega) ⟨H, I.tok _, by rw [lY r]; exact q⟩
    · subst e'
      obtain ⟨hz, hS, vs, r, m⟩ : kvs.length <= sizeLine /\ (p == sysModules) = false /\ ∃ vs, KV kvs vs /\ s.heap.DictOf (bJ X.prog X.w) p vs := I.hok p _ hx
      have hlen : kvs.length = vs.length := Paired.length r
      exact wpAny_truthy_dict hS m (by omega) ⟨H, I.tok _, by rw [rP r]; exact q⟩
  | _ => exact (show False from e).elim
theorem xj (ha : PE X a ta) (he : ∀ whole, isTrue a X.env whole = (do let v ← whole; standAt a.pos; holding [v] (truthy v))) :
    PT X a (fun σ H Q => ta σ H fun x H' => ∃ k, yD X.K x H' k /\ Q k H') := by
  intro pins s σ H Q I h
  exact isTrue_plain (thn (ha pins s σ H _ I h) fun v s1 ⟨x, H1, I1, r1, q1⟩ => Ao pins s1 σ H1 x v Q I1 r1 q1) (he _)
theorem rJ : OpR X (binaryOp .Add) (fun x y H Q => ∃ i j, x = .str i /\ y = .str j /\ i.length + j.length <= sizeLine /\ Q (.str (i ++ j)) H) := by
  intro pins s σ H x y v u Q I rx ry h
  obtain ⟨i, j, rfl, rfl, hz, q⟩ := h
  obtain ⟨t, rfl⟩ := rx
  obtain ⟨t', rfl⟩ := ry
  exact add_str (fun t' tk => ⟨.str (i ++ j), H, I.tok _, ⟨_, rfl⟩, q⟩) hz
theorem vals1 {x : V} {us : List Value} (r : Vals [x] us) : ∃ u, us = [u] /\ RelV x u := by
  cases r with
  | cons r1 r2 => cases r2; exact ⟨_, rfl, r1⟩
theorem vals2 {x y : V} {us : List Value} (r : Vals [x, y] us) : ∃ u w', us = [u, w'] /\ RelV x u /\ RelV y w' := by
  cases r with
  | cons r1 r2 =>
    cases r2 with
    | cons r3 r4 => cases r4; exact ⟨_, _, rfl, r1, r3⟩
theorem tK (hc : X.calm = true) : bu X (.builtin "max") (fun xs H Q => ∃ i j, xs = [.int i, .int j] /\ Q (.int (if j > i then j else i)) H) := by
  intro pins s σ H xs us Q I r h
  obtain ⟨i, j, rfl, q⟩ := h
  obtain ⟨u, w', rfl, ⟨t, rfl⟩, ⟨t', rfl⟩⟩ := vals2 r
  refine max_two_ints (I.ok.hd hc) fun h' tk k => ⟨_, H, I.kept k, ?_, q⟩
  by_cases hj : j > i
  · rw [if_pos hj, if_pos hj]; exact ⟨_, rfl⟩
  · rw [if_neg hj, if_neg hj]; exact ⟨_, rfl⟩
theorem t5 : bu X (.type "int") (fun xs H Q => (∃ i, xs = [.int i] /\ Q (.int i) H) \/ ∃ k, xs = [.bl k] /\ Q (.int (if k then 1 else 0)) H) := by
  intro pins s σ H xs us Q I r h
  rcases h with ⟨i, rfl, q⟩ | ⟨k, rfl, q⟩
  · obtain ⟨u, rfl, t, rfl⟩ := vals1 r
    exact call_int_int ⟨.int i, H, I, ⟨_, rfl⟩, q⟩
  · obtain ⟨u, rfl, r1⟩ := vals1 r
    cases r1
    exact call_int_bool ⟨.int (if k then 1 else 0), H, I.tok _, ⟨_, rfl⟩, q⟩
end
structure Ay (h : Heap) (x dx C : Addr) (mA : Str -> Option Value) : Prop where
  obj : h.get? x = some (PySem.W.instObj C dx)
  ns : h.Ns1 dx mA
  ne : dx ≠ x
theorem uh {h : Heap} {dx : Addr} {mA : Str -> Option Value} (n : h.Ns1 dx mA) : ∃ od, h.get? dx = some od /\ ∀ name, PySem.W.lookIn name od = some (mA name) := by
  obtain ⟨o, es, ep, ho, hd, hk, _, hm⟩ := n
  refine ⟨o, ho, fun name => ?_⟩
  have e := hm name
  unfold nsFind findBy at e
  rw [<- Array.find?_toList] at e
  unfold PySem.W.lookIn
  rw [hd]
  dsimp only
  split
  · rename_i y q
    rw [q] at e
    exact congrArg some e
  · rename_i q
    rw [q] at e
    have a : es.toList.any (·.refKey) = false := by
      rw [List.any_eq_false]
      intro y hy
      obtain ⟨z, t, hkey⟩ := hk y (Array.mem_toList_iff.mp hy)
      simp [DictEntry.refKey, hkey]
    have a' : ¬ es.toList.any (·.refKey) = true := by rw [a]; exact Bool.false_ne_true
    rw [if_neg a']
    exact congrArg some e
theorem Ay.look {h : Heap} {x dx C : Addr} {mA : Str -> Option Value} (I : Ay h x dx C mA) : ∃ od, PySem.W.InstAt h x (PySem.W.instObj C dx) C (some od) /\ ∀ name, PySem.W.lookIn name od = some (mA name) :=
  let ⟨od, ho, hl⟩ := uh I.ns
  ⟨od, ⟨I.obj, rfl, rfl, ho⟩, hl⟩
theorem jK.some_of {v : V} {o : Option Value} (r : jK (some v) o) : ∃ u, o = some u /\ RelV v u := by
  cases o with
  | none => exact (show False from r).elim
  | some u => exact ⟨u, rfl, r⟩
section
variable {P : Program} {w : World} {H H' : Hp} {h h' : Heap} {a C dx : Addr} {fs fs' : List (Str × V)}
theorem yf (hok : HOk P w H h) (e : H a = some (.ins C dx fs)) : ∃ mA, Ay h a dx C mA /\ (∀ f, jK (fs.lookup f) (mA f)) /\ PySem.Within mA (fs.map (·.1)) /\ fs.length <= 1000 /\ H dx = some (.own a) := by
  obtain ⟨d, z, ne, ob, mA, n, r, q⟩ := (show bc P w H h a (.ins C dx fs) from hok a _ e)
  exact ⟨mA, ⟨ob, n, ne⟩, r, q, z, d⟩
end
structure Cls (K : PySem.W.Frag) (C : Addr) : Prop where
  pg : PySem.W.plainGet K C Str.empty = true
  hd : PySem.W.hasDictIn K C = true
  po : PySem.W.plainOver K C = true
  sa : PySem.W.findIn K (.ref C) "__setattr__" = some (some (.builtin "object.__setattr__"))
theorem Cls.get {K : PySem.W.Frag} {C : Addr} (c : Cls K C) (f : Str) : PySem.W.plainGet K C f = true := c.pg
section
variable {X : Cx} {pins : List (Addr × Obj)} {σ : St} {H : Hp} {s : Shared} {A : Around} {E : Value -> Shared -> Prop} {Q : Value -> Shared -> Prop} {c : Value} {b : Bool}
inductive iU (K : PySem.W.Frag) (H : Hp) : V -> Value -> Prop where
  | non : iU K H .non (.type "NoneType")
  | bl (x : Bool) : iU K H (.bl x) (.type "bool")
  | int (i : Int) : iU K H (.int i) (.type "int")
  | str (x : Str) : iU K H (.str x) (.type "str")
  | flt (x : UInt64) : iU K H (.flt x) (.type "float")
  | lst {a : Addr} {xs : List V} (e : H a = some (.lst xs)) : iU K H (.ref a) (.type "list")
  | frz {a : Addr} {o : Obj} {xs : List V} (e : H a = some (.frz o (.lst xs))) : iU K H (.ref a) (.type "list")
  | tup {a : Addr} {xs : List V} (e : H a = some (.tup xs)) : iU K H (.ref a) (.type "tuple")
  | fX {a : Addr} {o : Obj} {kvs : List (Key × V)} (e : H a = some (.frz o (.dK kvs))) : iU K H (.ref a) (.type "dict")
  | dK {a : Addr} {kvs : List (Key × V)} (e : H a = some (.dK kvs)) : iU K H (.ref a) (.type "dict")
  | dT {a : Addr} {kvs : List (List Key × V)} (e : H a = some (.dT kvs)) : iU K H (.ref a) (.type "dict")
  | ins {a C dx : Addr} {fs : List (Str × V)} (e : H a = some (.ins C dx fs)) (cl : Cls K C) (ha : PySem.W.findIn K (.ref C) "__class__" = some (some (.builtin "object.__class__")))
      (hn : PySem.W.specialIn K (.builtin "object.__class__") "__get__" = some (some (.builtin "getset_descriptor.__get__"))) (htk : PySem.W.takesIn K (.builtin "object.__class__") = some true)
      (hm : PySem.W.mroIn K C (.type "object") = some true) : iU K H (.ref a) (.ref C)
theorem tZ {x : V} {u t : Value} (I : Inv X pins σ H s) (rx : RelV x u) (ty : iU X.K H x t) (e : PySem.W.kitOne X.K t c = some b) (h : ∀ tk, Q (.bool b) { s with toks := tk }) :
    wpAny (model X.prog X.w) A (call (.builtin "isinstance") [u, c]) Q E s := by
  cases ty with
  | non => cases (show u = Value.none from rx); exact PySem.W.kia_one PySem.W.kitx_none I.kIn True.intro e (fun z => nomatch z) h
  | bl y => cases (show u = Value.bool y from rx); exact PySem.W.kia_one PySem.W.kitx_bool I.kIn True.intro e (fun z => nomatch z) h
  | int i => obtain ⟨t, q⟩ := (show ∃ t, u = Value.int i t from rx); cases q; exact PySem.W.kia_one PySem.W.kitx_int I.kIn True.intro e (fun z => nomatch z) h
  | str y => obtain ⟨t, q⟩ := (show ∃ t, u = Value.str y t from rx); cases q; exact PySem.W.kia_one PySem.W.kitx_str I.kIn True.intro e (fun z => nomatch z) h
  | flt y => obtain ⟨t, q⟩ := (show ∃ t, u = Value.float y t from rx); cases q; exact PySem.W.kia_one PySem.W.kitx_float I.kIn True.intro e (fun z => nomatch z) h
  | @lst a xs ea =>
    cases (show u = Value.ref a from rx)
    obtain ⟨_, _, n, _, h1⟩ := (show bc X.prog X.w H s.heap a (.lst xs) from I.hok a _ ea)
    exact PySem.W.kia_one PySem.W.kitx_list I.kIn ⟨_, h1, rfl⟩ e (fun z => nomatch z) h
  | @frz a ob xs ea =>
    cases (show u = Value.ref a from rx)
    obtain ⟨_, _, _, n, _, h1⟩ := (show bc X.prog X.w H s.heap a (.frz ob (.lst xs)) from I.hok a _ ea)
    exact PySem.W.kia_one PySem.W.kitx_list I.kIn ⟨_, h1, rfl⟩ e (fun z => nomatch z) h
  | @tup a xs ea =>
    cases (show u = Value.ref a from rx)
    obtain ⟨_, _, _, p⟩ := (show bc X.prog X.w H s.heap a (.tup xs) from I.hok a _ ea)
    obtain ⟨o, h1, ⟨h2, _⟩, _⟩ := p
    exact PySem.W.kia_one PySem.W.kitx_tuple I.kIn ⟨o, h1, h2⟩ e (fun z => nomatch z) h
  | @fX a ob kvs ea =>
    cases (show u = Value.ref a from rx)
    obtain ⟨_, _, _, vs, _, p⟩ := (show bc X.prog X.w H s.heap a (.frz ob (.dK kvs)) from I.hok a _ ea)
    obtain ⟨o, es, ep, h1, h2, _⟩ := p
    exact PySem.W.kia_one PySem.W.kitx_dict I.kIn ⟨o, h1, h2.1⟩ e (fun z => nomatch z) h
  | @dK a kvs ea =>
    cases (show u = Value.ref a from rx)
    obtain ⟨_, _, vs, _, p⟩ := (show bc X.prog X.w H s.heap a (.dK kvs) from I.hok a _ ea)
    obtain ⟨o, es, ep, h1, h2, _⟩ := p
    exact PySem.W.kia_one PySem.W.kitx_dict I.kIn ⟨o, h1, h2.1⟩ e (fun z => nomatch z) h
  | @dT a kvs ea =>
    cases (show u = Value.ref a from rx)
    obtain ⟨_, _, xs, _, o, es, ep, h1, h2, _⟩ := (show bc X.prog X.w H s.heap a (.dT kvs) from I.hok a _ ea)
    exact PySem.W.kia_one PySem.W.kitx_dict I.kIn ⟨o, h1, h2.1⟩ e (fun z => nomatch z) h
  | @ins a C dx fs ea cl ha hn htk hm =>
    cases (show u = Value.ref a from rx)
    obtain ⟨mA, O, _⟩ := yf I.hok ea
    obtain ⟨od, J, _⟩ := O.look
    exact PySem.W.kia_one (PySem.W.kitx_own (cl.get _) cl.hd ha hn htk hm) I.kIn J e (fun z => nomatch z) h
end
structure fu (k : Nat) (A : Around) : Prop where
  hd : A.handled = none
  dp : A.depth + 3 * k + 5 < recursionLimit
  un : A.units + 16 * k + 200 < cLine
  gd : A.guards = some []
theorem fu.mono {j k : Nat} {A : Around} (r : fu k A) (h : j <= k) : fu j A := ⟨r.hd, by have := r.dp; omega, by have := r.un; omega, r.gd⟩
theorem fu.deeper {k : Nat} {A : Around} (r : fu (k + 1) A) (env : Env) : fu k (A.deeper env) :=
  ⟨r.hd, by have := r.dp; show A.depth + 1 + 3 * k + 5 < _; omega, by have := r.un; show A.units + 3 + 16 * k + 200 < _; omega, r.gd⟩
theorem fu.depth {k : Nat} {A : Around} (r : fu k A) : A.depth < recursionLimit := by have := r.dp; omega
theorem fu.units {k : Nat} {A : Around} (r : fu k A) : A.units + 64 < cLine := by have := r.un; omega
noncomputable def Cs : TA := fun _ H Q => Q [] H
noncomputable def zx (ta : TE) (tr : TA) : TA := fun σ H Q => ta σ H fun x H1 => tr σ H1 fun xs H2 => Q (x :: xs) H2
section
variable {X : Cx} {e : Expr} {es : List Expr} {te : TE} {t : TA} {pos : Pos}
theorem rS : PA X [] Cs := fun _ _ _ _ H Q I h => Calls.spliced_nil ⟨[], H, I, .nil, h⟩
theorem kE (ha : PE X e te) (hr : PA X es t) (hs : starEach (e :: es) X.env = (false, eval e X.env) :: starEach es X.env := by rfl) : PA X (e :: es) (zx te t) := by
  intro pos pins s σ H Q I h
  rw [hs]
  show wpAny _ _ (spliced ((false, eval e X.env) :: backTo pos (starEach es X.env))) _ _ s
  refine Calls.spliced_cons (thn (ha pins s σ H _ I h) fun u s1 ⟨x, H1, I1, r1, q1⟩ => ?_)
  exact thn (hr pos pins s1 σ H1 _ I1 q1) fun us s2 ⟨xs, H2, I2, r2, q2⟩ => ⟨x :: xs, H2, I2, .cons r1 r2, q2⟩
noncomputable def Dw (t : TA) : TE := fun σ H Q => t σ H fun xs H1 => xs.length <= sizeLine /\ ∀ p, H1 p = none -> Q (.ref p) (upd H1 p (.tup xs))
noncomputable def DO (t : TA) : TE := fun σ H Q => t σ H fun xs H1 => xs.length <= sizeLine /\ ∀ p, H1 p = none -> Q (.ref p) (upd H1 p (.lst xs))
theorem AR {x1} (h : PA X es t) : PE X (.Tuple es x1 pos) (Dw t) := by
  intro pins s σ H Q I hq
  refine wpAny_Tuple_spliced (thn (h pos pins s σ H _ I hq) fun us s1 ⟨xs, H1, I1, r, z, q⟩ => ⟨by rw [<- r.length]; exact z, ?_⟩)
  have hf : H1 s1.heap.objs.size = none := I1.hok.fresh (Nat.le_refl _)
  refine ⟨.ref s1.heap.objs.size, upd H1 s1.heap.objs.size (.tup xs), I1.laid (t' := s1.toks) (fun b u e => Heap.get?_push_of_some _ e) (Nat.le_refl _) ?_, rfl, q _ hf⟩
  exact ⟨z, us, r, ⟨_, Heap.get?_push_size _ rfl, ⟨rfl, _, rfl⟩, rfl⟩⟩
theorem AB (h : PA X es t) : PE X (.List es pos) (DO t) := by
  intro pins s σ H Q I hq
  refine wpAny_List_spliced (thn (h pos pins s σ H _ I hq) fun us s1 ⟨xs, H1, I1, r, z, q⟩ => ⟨by rw [<- r.length]; exact z, ?_⟩)
  have hf : H1 s1.heap.objs.size = none := I1.hok.fresh (Nat.le_refl _)
  refine ⟨.ref s1.heap.objs.size, upd H1 s1.heap.objs.size (.lst xs), I1.laid (t' := s1.toks) (fun b u e => Heap.get?_push_of_some _ e) (Nat.le_refl _) ?_, rfl, q _ hf⟩
  exact ⟨z, us, 0, r, Heap.get?_push_size _ rfl⟩
end
noncomputable abbrev Sp := List V -> Hp -> VK -> XK -> Prop
noncomputable abbrev CXT := List Env -> Hp -> Shared -> XK -> Value -> Shared -> Prop
structure yj (P : Program) (w : World) (K : PySem.W.Frag) (mg : Str -> Option Value) (base : Heap) (A : Around) (outer : List Env) (s : Shared) (H : Hp) : Prop where
  frames : A.frames = some outer
  mod : Mod K mg base
  bs : ∀ b o, base.get? b = some o -> s.heap.get? b = some o /\ H b = none
  bsz : base.objs.size <= s.heap.objs.size
  kL : s.heap.FunFrames base outer
  frf : ∀ b ∈ frs outer, H b = none
  hok : HOk P w H s.heap
  bare : AllBare s.gens
noncomputable def CE (outer : List Env) (P : Program) (w : World) (H : Hp) (s : Shared) (Q : VK) (u : Value) (s' : Shared) : Prop :=
  ∃ v H', s'.os = s.os /\ AllBare s'.gens /\ Un (frs outer) [] H H' s.heap s'.heap /\ HOk P w H' s'.heap /\ RelV v u /\ Q v H'
noncomputable def CR (CX : CXT) (outer : List Env) (P : Program) (w : World) (H : Hp) (s : Shared) (Q : VK) (E : XK) (r : Result) (s' : Shared) : Prop :=
  match r with
  | .ok (.ret u) => CE outer P w H s Q u s'
  | .ok _ => False
  | .error e => CX outer H s E e s'
structure fo (P : Program) (w : World) (K : PySem.W.Frag) (mg : Str -> Option Value) (base : Heap) (CX : CXT) (k : Nat) (f : Addr) (fd : FuncData) (ps : List Str) (sp : Sp) : Prop where
  len : ∀ vs H Q E, sp vs H Q E -> vs.length = ps.length
  run : ∀ (A : Around) (outer : List Env) (s : Shared) (H : Hp) (args : Args) (us : List Value) (vs : List V) (Q : VK) (E : XK), fu k A -> yj P w K mg base A outer s H -> BindsTo s fd args (ps.zip us) -> Vals vs us -> sp vs H Q E →
    codeAny (model P w) A (.call (.ref f) args) (CR CX outer P w H s Q E) s
theorem fo.mono {P : Program} {w : World} {K : PySem.W.Frag} {mg : Str -> Option Value} {base : Heap} {CX : CXT} {j k : Nat} {f : Addr} {fd : FuncData} {ps : List Str} {sp : Sp} (F : fo P w K mg base CX j f fd ps sp) (h : j <= k) :
    fo P w K mg base CX k f fd ps sp := ⟨F.len, fun A outer s H args us vs Q E hr => F.run A outer s H args us vs Q E (hr.mono h)⟩
theorem fo.imp {P : Program} {w : World} {K : PySem.W.Frag} {mg : Str -> Option Value} {base : Heap} {CX : CXT} {k : Nat} {f : Addr} {fd : FuncData} {ps : List Str} {sp sp' : Sp} (F : fo P w K mg base CX k f fd ps sp)
    (h : ∀ vs H Q E, sp' vs H Q E -> sp vs H Q E) : fo P w K mg base CX k f fd ps sp' :=
  ⟨fun vs H Q E q => F.len vs H Q E (h _ _ _ _ q), fun A outer s H args us vs Q E hr he hb hv hs => F.run A outer s H args us vs Q E hr he hb hv (h _ _ _ _ hs)⟩
section
variable {X : Cx} {pins : List (Addr × Obj)} {σ : St} {H : Hp} {s s' : Shared}
theorem Inv.Eh (I : Inv X pins σ H s) : yj X.prog X.w X.K X.mg X.base X.A X.stack s H :=
  ⟨I.ok.frames, I.ok.mod, I.bs, Nat.le_trans I.ok.bsz I.sz, I.stack, I.sO, I.hok, I.bare⟩
theorem Inv.after {Q : VK} {u : Value} (I : Inv X pins σ H s) (h : CE X.stack X.prog X.w H s Q u s') : EP X pins σ Q u s' := by
  obtain ⟨v, H', os, bare, un, hok, r, q⟩ := h
  obtain ⟨hh, g, d, t, os'⟩ := s'
  obtain rfl : os' = s.os := os
  exact ⟨v, H', I.call (h' := hh) (g' := g) (d' := d) (t' := t) (ch := []) un hok bare (fun b z => absurd z (by simp)), r, q⟩
end
noncomputable def B8 (sp : Sp) (dvs : List V) (E : XK) (t : TA) : TE := fun σ H Q => t σ H fun vs H1 => sp (vs ++ dvs) H1 Q E
noncomputable def Binds (K : PySem.W.Frag) (fd : FuncData) (ps : List Str) (ds : List Value) : Prop :=
  ∀ (s : Shared) (us : List Value), K.In s.heap -> (us ++ ds).length = ps.length -> BindsTo s fd ⟨us, []⟩ (ps.zip (us ++ ds))
theorem Binds.all {K : PySem.W.Frag} {fd : FuncData} {ps : List Str} (h : ∀ us : List Value, us.length = ps.length -> bindArgs fd ⟨us, []⟩ = pure (ps.zip us)) : Binds K fd ps [] := fun s us _ hl => by
  rw [List.append_nil] at hl ⊢
  exact .of_eq (h us hl)
noncomputable def Passes (CX : CXT) (X : Cx) (E : XK) : Prop := ∀ (pins : List (Addr × Obj)) (σ : St) (H : Hp) (s : Shared) (e : Value) (s' : Shared), Inv X pins σ H s -> CX X.stack H s E e s' -> X.xe e s'
section
variable {X : Cx} {CX : CXT} {k : Nat} {f C : Addr} {fd : FuncData} {ps : List Str} {sp : Sp} {dvs : List V} {ds : List Value} {E : XK} {x m : Str} {p pos apos : Pos} {e o : Expr} {es : List Expr} {ta : TE} {t : TA}
theorem A9 {pins : List (Addr × Obj)} {σ : St} {H : Hp} {s : Shared} {Q : VK} {us : List Value} {vs : List V} (F : fo X.prog X.w X.K X.mg X.base CX k f fd ps sp) (hr : fu k X.A) (hb : Binds X.K fd ps ds) (hd : Vals dvs ds) (hx : Passes CX X E)
    (I : Inv X pins σ H s) (r : Vals vs us) (h : sp (vs ++ dvs) H Q E) : wpAny (model X.prog X.w) X.A (call (.ref f) us) (EP X pins σ Q) X.xe s := by
  have r2 : Vals (vs ++ dvs) (us ++ ds) := r.append hd
  have hl : (us ++ ds).length = ps.length := by rw [<- r2.length]; exact F.len _ _ _ _ h
  refine wpAny_call (codeAny_mono (F.run X.A X.stack s H ⟨us, []⟩ (us ++ ds) (vs ++ dvs) Q E hr I.Eh (hb s us I.kIn hl) r2 h) fun r s' hq => ?_)
  cases r with
  | error e => exact hx pins σ H s e s' I hq
  | ok fl =>
    cases fl with
    | ret u => exact I.after hq
    | next => exact False.elim hq
    | brk => exact False.elim hq
    | cont => exact False.elim hq
theorem zu (F : fo X.prog X.w X.K X.mg X.base CX k f fd ps sp) (hr : fu k X.A) (hg : Gl X x) (hm : X.mg x = some (.ref f)) (hk : PySem.W.keepIn X.K (.ref f) = true) (hb : Binds X.K fd ps ds) (hd : Vals dvs ds) (hx : Passes CX X E)
    (ha : PA X (e :: es) t) (hdb : (x == ("__debug__" : Str)) = false := by decide) (he : starEach (e :: es) X.env = (false, eval e X.env) :: starEach es X.env := by rfl) (hpl : (backTo pos (starEach es X.env)).any (·.1) = false := by rfl) :
    PE X (.Call (.Name x p) (e :: es) [] pos) (B8 sp dvs E t) := by
  intro pins s σ H Q I h
  refine wpAny_Call_Name_kw (tD I hg hm ?_ hdb)
  refine PySem.W.callWith_K (h₀ := X.base) I.ok.mod.kin hk (thn (ha pos pins s σ H _ I h) fun us s1 ⟨vs, H1, I1, r, q⟩ => ⟨I1.kIn, ?_⟩) he hpl
  exact A9 F hr hb hd hx I1 r q
end
structure aL (N P : List Str) (sc : Scope) : Prop where
  kind : sc.kind = .function
  co : sc.isCoroutine = false
  gen : sc.isGenerator = false
  nd : N.Nodup
  pre : N.take P.length = P
  par : ∀ x ∈ P, sc.names.lookup x = some .local \/ sc.names.lookup x = some .cell
  zW : ∀ y ∈ sc.names, y.2 ≠ .free
theorem nG {kindOf : Str -> Option NameKind} {x : Str} : ∀ {binds : List (Str × Value)} {m : Str -> Option Value}, (∀ v, (x, v) ∉ binds) -> bindL kindOf binds m x = m x
  | [], _, _ => rfl
  | (n, v) :: r, m, h => by
    unfold bindL
    rw [nG fun w hw => h w (List.mem_cons_of_mem _ hw)]
    split
    · have : x ≠ n := by rintro rfl; exact h v List.mem_cons_self
      simp [this]
    · rfl
theorem nR {kindOf : Str -> Option NameKind} {x : Str} : ∀ {binds : List (Str × Value)} {m : Str -> Option Value}, (∀ v, (x, v) ∉ binds) -> bindC kindOf binds m x = m x
  | [], _, _ => rfl
  | (n, v) :: r, m, h => by
    unfold bindC
    rw [nR fun w hw => h w (List.mem_cons_of_mem _ hw)]
    split
    · rfl
    · have : x ≠ n := by rintro rfl; exact h v List.mem_cons_self
      simp [this]
theorem nu {kindOf : Str -> Option NameKind} {x : Str} {v : Value} : ∀ {P : List Str} {vs : List Value} {i : Nat} {m : Str -> Option Value}, P.Nodup -> P[i]? = some x -> vs[i]? = some v -> kindOf x = some .local →
    bindL kindOf (P.zip vs) m x = some v
  | [], _, _, _, _, h, _, _ => by simp at h
  | _ :: _, [], _, _, _, _, h, _ => by simp at h
  | p :: P, w :: vs, 0, m, nd, h1, h2, hk => by
    simp at h1 h2; subst h1; subst h2
    show bindL kindOf ((p, w) :: P.zip vs) m p = _
    unfold bindL
    rw [nG fun v hv => (List.nodup_cons.mp nd).1 (List.of_mem_zip hv).1, if_pos hk]
    simp
  | p :: P, w :: vs, i + 1, m, nd, h1, h2, hk => by
    show bindL kindOf ((p, w) :: P.zip vs) m x = _
    unfold bindL
    exact nu (i := i) (List.nodup_cons.mp nd).2 (by simpa using h1) (by simpa using h2) hk
theorem nJ {kindOf : Str -> Option NameKind} {x : Str} {v : Value} : ∀ {P : List Str} {vs : List Value} {i : Nat} {m : Str -> Option Value}, P.Nodup -> P[i]? = some x -> vs[i]? = some v -> kindOf x ≠ some .local →
    bindC kindOf (P.zip vs) m x = some v
  | [], _, _, _, _, h, _, _ => by simp at h
  | _ :: _, [], _, _, _, _, h, _ => by simp at h
  | p :: P, w :: vs, 0, m, nd, h1, h2, hk => by
    simp at h1 h2; subst h1; subst h2
    show bindC kindOf ((p, w) :: P.zip vs) m p = _
    unfold bindC
    rw [nR fun v hv => (List.nodup_cons.mp nd).1 (List.of_mem_zip hv).1, if_neg hk]
    simp
  | p :: P, w :: vs, i + 1, m, nd, h1, h2, hk => by
    show bindC kindOf ((p, w) :: P.zip vs) m x = _
    unfold bindC
    exact nJ (i := i) (List.nodup_cons.mp nd).2 (by simpa using h1) (by simpa using h2) hk
noncomputable def start (N : List Str) (vs : List V) : St := vs.map some ++ List.replicate (N.length - vs.length) none
noncomputable def rF (CX : CXT) (P : Program) (w : World) (K : PySem.W.Frag) (mg : Str -> Option Value) (base : Heap) (N : List Str) (qual : Str) (scope : Scope) (f : Addr) (cd : Value) (A : Around) (outer : List Env) (s : Shared) (H : Hp) (E : XK) : Cx where
  prog := P
  w := w
  K := K
  mg := mg
  base := base
  A := A.deeper (envOfC qual scope s.heap.objs.size f cd)
  N := N
  aH := s
  aQ := H
  env := envOfC qual scope s.heap.objs.size f cd
  outer := outer
  stack := envOfC qual scope s.heap.objs.size f cd :: outer
  ex := []
  calm := true
  fn := fun _ => true
  pn := []
  xe := fun e s' => wpAny (model P w) (A.deeper (envOfC qual scope s.heap.objs.size f cd)) (leaving (envOfC qual scope s.heap.objs.size f cd) e) (fun _ s'' => CX outer H s E e s'') (fun e' s'' => CX outer H s E e' s'') s'
theorem pZ {sc : Scope} {n : Nat} {x : Str} (h : sc.names.lookup x = some .cell) : ∃ c, (cellsFrom n sc.names []).lookup x = some c := by
  have q := PySem.W.cellsFrom_some sc.names n [] (.inl h)
  exact Option.isSome_iff_exists.mp q
theorem uC {CX : CXT} {P : Program} {w : World} {K : PySem.W.Frag} {mg : Str -> Option Value} {base : Heap} {N ps : List Str} {qual : Str} {scope : Scope} {f : Addr} {cd : Value} {A : Around} {outer : List Env} {s s1 : Shared} {H : Hp} {E : XK} {us : List Value} {vs : List V}
    (S : aL N ps scope) (hd : A.handled = none) (e0 : yj P w K mg base A outer s H) (hl : vs.length = ps.length) (r : Vals vs us)
    (x : InCallC s s.heap.objs.size (bindL (envOfC qual scope s.heap.objs.size f cd).kindOf (ps.zip us) fun _ => none) (cellsFrom (s.heap.objs.size + 1) scope.names []) (bindC (envOfC qual scope s.heap.objs.size f cd).kindOf (ps.zip us) fun _ => none) s1) :
    Inv (rF CX P w K mg base N qual scope f cd A outer s H E) [] (start N vs) H s1 := by
  have hpl : ps.length <= N.length := by have := congrArg List.length S.pre; rw [List.length_take] at this; omega
  obtain ⟨h1, tk, rfl, hk⟩ := x.done
  have noA : ∀ b : Addr, b ∉ (rF CX P w K mg base N qual scope f cd A outer s H E).ex := fun b z => absurd (show b ∈ ([] : List Addr) from z) (by simp)
  refine ⟨⟨e0.mod, S.kind, rfl, rfl, Nat.le_refl _, fun y z c h1 h2 => ?_, fun y hy => ?_, fun y c _ h => ?_, fun _ => hd, Around.frames_deeper e0.frames, .inr ⟨rfl, rfl⟩, fun b z => absurd z (noA b), e0.bs, e0.bsz, fun b _ _ => noA b, fun b z => absurd z (noA b), e0.kL, e0.frf⟩,
    rfl, e0.bare, Un.kept hk, ⟨_, x.toInCall.ns, fun i y v h1 h2 h3 => ?_⟩, fun y c h => ⟨_, x.cell y c h⟩, e0.hok.fresh (Nat.le_refl _), fun y c h => ?_, fun p hp => absurd (show p ∈ ([] : List (Addr × Obj)) from hp) (by simp), e0.hok.kept hk, ?_⟩
  · exact name_of_addr x.apart (PySem.mem_of_lookup h1) (PySem.mem_of_lookup h2)
  · have hy : scope.names.lookup y = some .cell \/ scope.names.lookup y = some .free := hy
    rcases hy with hy | hy
    · exact pZ hy
    · exact absurd rfl (S.zW _ (PySem.mem_of_lookup hy))
  · exact Nat.le_of_lt (x.above y c (PySem.mem_of_lookup h))
  · have hi : i < vs.length := by
      unfold start at h2
      by_cases hi : i < vs.length
      · exact hi
      · rw [List.getElem?_append_right (by simpa using hi)] at h2
        rw [List.getElem?_replicate] at h2
        split at h2 <;> cases h2
    have ha : vs[i]? = some v := by
      unfold start at h2
      rw [List.getElem?_append_left (by simpa using hi), List.getElem?_map] at h2
      cases e : vs[i]? with
      | none => rw [e] at h2; cases h2
      | some a => rw [e] at h2; cases h2; rfl
    obtain ⟨u, hu, rv⟩ := r.get ha
    have hp : ps[i]? = some y := by
      rw [<- S.pre, List.getElem?_take_of_lt (by omega)]; exact h1
    have ndP : ps.Nodup := by rw [<- S.pre]; exact S.nd.sublist (List.take_sublist _ _)
    refine ⟨u, rv, ?_⟩
    rcases S.par y (List.mem_of_getElem? hp) with k | k
    · exact .inl ⟨k, nu ndP hp hu k⟩
    · obtain ⟨c, e⟩ := pZ (n := s.heap.objs.size + 1) k
      refine .inr ⟨.inl k, c, e, ?_⟩
      have q := x.cell y c e
      rw [nJ ndP hp hu (by show scope.names.lookup y ≠ _; rw [k]; decide)] at q
      exact q
  · exact e0.hok.fresh (Nat.le_of_lt (x.above y c (PySem.mem_of_lookup h)))
  · unfold start
    show _ = N.length
    rw [List.length_append, List.length_map, List.length_replicate]
    omega
theorem B7 {CX : CXT} {P : Program} {w : World} {K : PySem.W.Frag} {mg : Str -> Option Value} {base : Heap} {k : Nat} {f : Addr} {name qual : Str} {params : Arguments} {body : List Stmt} {scope : Scope} {dV kV doc pm cdv ct oc : Value} {an od : Option Addr}
    {osl : Array (Option Value)} {N ps : List Str} {sp : Sp} (lk : K.lookup f = some ⟨oc, od, .func (PySem.W.fnOf name qual params body scope dV kV doc pm an cdv ct), osl⟩) (hcd : PySem.W.codeIn K cdv qual = true) (S : aL N ps scope)
    (len : ∀ vs H Q E, sp vs H Q E -> vs.length = ps.length)
    (hbody : ∀ (A : Around) (outer : List Env) (s : Shared) (H : Hp) (vs : List V) (Q : VK) (E : XK), fu k (A.deeper (envOfC qual scope s.heap.objs.size f cdv)) -> sp vs H Q E →
      ∃ t, PSs (rF CX P w K mg base N qual scope f cdv A outer s H E) body t /\ t { nx := fun _ H' => Q .non H', rt := Q } (start N vs) H) :
    fo P w K mg base CX (k + 1) f (PySem.W.fnOf name qual params body scope dV kV doc pm an cdv ct) ps sp := by
  refine ⟨len, fun A outer s H args us vs Q E hr e0 hb r hsp => ?_⟩
  have hl := len _ _ _ _ hsp
  have KX : K.In s.heap := e0.mod.kin.keeps fun b o e => (e0.bs b o e).1
  have lim : s.heap.NoLimit := e0.mod.nolimit.keeps fun b o e => (e0.bs b o e).1
  have hkind : ∀ y ∈ ps.zip us, scope.names.lookup y.1 = some .local \/ (scope.names.lookup y.1 = some .cell /\ ((cellsFrom (s.heap.objs.size + 1) scope.names []).lookup y.1).isSome = true) := fun ⟨n, v⟩ hy => by
    rcases S.par n (List.of_mem_zip hy).1 with q | q
    · exact .inl q
    · exact .inr ⟨q, PySem.W.cellsFrom_some _ _ _ (.inl q)⟩
  refine codeAny_call_function hr.depth (KX _ _ lk) rfl S.co S.gen rfl (PySem.W.codeRec_of KX hcd) (hb _ _ _ _ ?_)
  refine wpAny_newFunctionEnv_cells S.kind hkind fun env he s1 x => ?_
  subst he
  refine ⟨lim.keeps x.toInCall.keep, codeAny_func ?_⟩
  obtain ⟨t, ht, hq⟩ := hbody A outer s H vs Q E (hr.deeper _) hsp
  have I : Inv (rF CX P w K mg base N qual scope f cdv A outer s H E) [] (start N vs) H s1 := uC S hr.hd e0 hl r x
  refine wpAny_mono (ht [] s1 (start N vs) H _ I hq) (fun fl s' hs => ?_) fun e s' hs => hs
  have fin : ∀ {σ' : St} {H' : Hp} {v : V} {u : Value}, Inv (rF CX P w K mg base N qual scope f cdv A outer s H E) [] σ' H' s' -> RelV v u -> Q v H' -> CE outer P w H s Q u s' :=
    fun {σ' H' v u} J rv q => ⟨v, H', J.os, J.bare, J.base, J.hok, rv, q⟩
  cases fl with
  | ret u =>
    obtain ⟨v, σ', H', J, rv, q⟩ := hs
    exact fin J rv q
  | next =>
    obtain ⟨σ', H', J, q⟩ := hs
    exact fin (v := V.non) (u := Value.none) J rfl q
  | brk =>
    obtain ⟨_, _, _, q⟩ := hs
    exact False.elim q
  | cont =>
    obtain ⟨_, _, _, q⟩ := hs
    exact False.elim q
section
variable {X : Cx} {x : Str} {p pos : Pos} {e : Expr} {es : List Expr} {t : TA} {id T : String} {r : List V -> Hp -> VK -> Prop}
noncomputable def tCB (r : List V -> Hp -> VK -> Prop) (t : TA) : TE := fun σ H Q => t σ H fun vs H1 => r vs H1 Q
theorem qB (hc : bu X (.builtin id) r) (hg : Gl X x) (hm : X.mg x = none) (hv : bootBuiltins x = some (.builtin id)) (ha : PA X (e :: es) t) (hn : x ≠ "__name__" := by decide) (hdb : (x == ("__debug__" : Str)) = false := by decide)
    (he : starEach (e :: es) X.env = (false, eval e X.env) :: starEach es X.env := by rfl) (hpl : (backTo pos (starEach es X.env)).any (·.1) = false := by rfl) : PE X (.Call (.Name x p) (e :: es) [] pos) (tCB r t) := by
  intro pins s σ H Q I h
  refine wpAny_Call_Name_kw (jG I hg hm hv ?_ hn hdb)
  exact PyProof.Rows.callWith_builtin1 (thn (ha pos pins s σ H _ I h) fun us s1 ⟨vs, H1, I1, r1, q1⟩ => hc pins s1 σ H1 vs us Q I1 r1 q1) he hpl
theorem uD (hc : bu X (.type T) r) (hg : Gl X x) (hm : X.mg x = none) (hv : bootBuiltins x = some (.type T)) (ha : PA X (e :: es) t) (hn : x ≠ "__name__" := by decide) (hdb : (x == ("__debug__" : Str)) = false := by decide)
    (he : starEach (e :: es) X.env = (false, eval e X.env) :: starEach es X.env := by rfl) (hpl : (backTo pos (starEach es X.env)).any (·.1) = false := by rfl) : PE X (.Call (.Name x p) (e :: es) [] pos) (tCB r t) := by
  intro pins s σ H Q I h
  refine wpAny_Call_Name_kw (jG I hg hm hv ?_ hn hdb)
  exact PyProof.Rows.callWith_type1 (thn (ha pos pins s σ H _ I h) fun us s1 ⟨vs, H1, I1, r1, q1⟩ => hc pins s1 σ H1 vs us Q I1 r1 q1) he hpl
end
end L2
namespace HT
open PySem PyProof.Rows
section
variable {prog : Program} {w : World} {A : Around} {E : Value -> Shared -> Prop} {s : Shared}
theorem y0 {t b : Addr} {vs ws : List Value} {Q : Value -> Shared -> Prop} (ht : IsTup s.heap t vs.toArray) (hb : IsTup s.heap b ws.toArray) (hv : vs ≠ [])
    (h1 : ws = [] -> Q (.ref t) s) (h2 : ws ≠ [] -> Q (.ref s.heap.objs.size) { s with heap := s.heap.push { cls := .type "tuple", data := .seq (vs ++ ws).toArray } })
    (hsz : vs.length + ws.length <= sizeLine) : wpAny (model prog w) A (binaryOp .Add (.ref t) (.ref b)) Q E s := by
  obtain ⟨⟨cls, dd, data, sl⟩, ho, hc, n, hd⟩ := id ht
  obtain ⟨⟨cls2, dd2, data2, sl2⟩, ho2, hc2, n2, hd2⟩ := id hb
  simp only at hc hd hc2 hd2
  subst hc hd hc2 hd2
  have e : vs.toArray ++ ws.toArray = (vs ++ ws).toArray := by simp
  by_cases hw : ws = []
  · exact concat_meets ⟨_, ho, rfl⟩ ⟨_, ho2, rfl⟩ noFill_tuple_add seq_tuple_add PySem.F.slot_tuple_add PySem.F.entry_tuple_add (PySem.F.args_tuple_add_2 _ _)
      (tuple_addW1 t b vs.toArray ws.toArray n n2 dd dd2 sl sl2 (by simpa using hv) (by simp [hw])) ⟨ho, ho2, h1 hw⟩
  · refine concat_meets ⟨_, ho, rfl⟩ ⟨_, ho2, rfl⟩ noFill_tuple_add seq_tuple_add PySem.F.slot_tuple_add PySem.F.entry_tuple_add (PySem.F.args_tuple_add_2 _ _)
      (tuple_addW2 t b vs.toArray ws.toArray n n2 dd dd2 sl sl2 (by simpa using hv) (by simpa using hw) (by rw [List.size_toArray, List.size_toArray]; exact hsz)) ⟨ho, ho2, ?_⟩
    rw [e]
    exact h2 hw
noncomputable def sIx (n d : Nat) : Option Int -> Nat
  | none => d
  | some v => if v < 0 then (v + (n : Int)).toNat else min v.toNat n
theorem AE (n d : Nat) (hd : d <= n) (o : Option Int) : sIx n d o <= n := by
  cases o with
  | none => exact hd
  | some v =>
    show (if v < 0 then (v + (n : Int)).toNat else min v.toNat n) <= n
    by_cases hv : v < 0
    · rw [if_pos hv]; omega
    · rw [if_neg hv]; exact Nat.min_le_right _ _
theorem sC (v : Int) (n d : Nat) : (if v < 0 then max (v + (n : Int)) 0 else min v (n : Int)) = ((sIx n d (some v) : Nat) : Int) := by
  show (if v < 0 then max (v + (n : Int)) 0 else min v (n : Int)) = (((if v < 0 then (v + (n : Int)).toNat else min v.toNat n) : Nat) : Int)
  by_cases hv : v < 0
  · simp only [if_pos hv]; omega
  · simp only [if_neg hv]; omega
theorem rC (lo hi : Option Int) (n : Nat) : Builtin.Slice.sliceAdjust lo hi 1 (n : Int) = (((sIx n 0 lo : Nat) : Int), ((sIx n n hi : Nat) : Int)) := by
  have h1 : ¬ ((1 : Int) < 0) := by omega
  unfold Builtin.Slice.sliceAdjust
  simp only [h1, if_false]
  refine Prod.ext ?_ ?_
  · cases lo with
    | none => rfl
    | some v => exact sC v n 0
  · cases hi with
    | none => rfl
    | some v => exact sC v n n
theorem rN (i j : Nat) : Builtin.Slice.slicePlaces (i : Int) (j : Int) 1 = j - i := by
  unfold Builtin.Slice.slicePlaces
  have h1 : (1 : Int) > 0 := by omega
  simp only [h1, if_true, Int.ediv_one]
  split <;> omega
theorem lh {v : Value} {o : Option Int} {Q : Option Int -> Shared -> Prop} (p : IsPart v o) (h : Q o s) : wpAny (model prog w) A (Builtin.Slice.slicePartIndex v) Q E s := by
  cases p with
  | none => exact slicePart_none h
  | int i t => exact slicePart_int h
theorem fC {sl : Addr} {vl vu : Value} {lo hi : Option Int} {n : Nat} {Q : Int × Int × Nat -> Shared -> Prop} (hs : s.heap.IsSliceOf sl vl vu .none) (pl : IsPart vl lo) (pu : IsPart vu hi)
    (h : Q (((sIx n 0 lo : Nat) : Int), 1, sIx n n hi - sIx n 0 lo) s) : wpAny (model prog w) A (Builtin.Slice.sliceApplied (.ref sl) (pure (n : Int))) Q E s := by
  obtain ⟨os, hos, hcs, hds⟩ := id hs
  unfold Builtin.Slice.sliceApplied Builtin.Slice.sliceFields
  refine wpAny_bind (wpAny_bind (wpAny_field hos hds (x := vl) rfl (wpAny_bind (wpAny_field hos hds (x := vu) rfl (wpAny_bind (wpAny_field hos hds (x := .none) rfl (wpAny_pure ?_)))))))
  refine wpAny_bind (slicePart_none ?_)
  show wpAny _ _ (if ((1 : Int) == 0) = true then _ else _) _ _ s
  rw [if_neg (by decide)]
  refine wpAny_bind (lh pl (wpAny_bind (lh pu (wpAny_bind (wpAny_pure ?_)))))
  show wpAny _ _ (match Builtin.Slice.sliceAdjust lo hi 1 (n : Int) with | (lo, hi) => pure (lo, (1 : Int), Builtin.Slice.slicePlaces lo hi 1)) _ _ s
  rw [rC lo hi n]
  show wpAny _ _ (pure (((sIx n 0 lo : Nat) : Int), (1 : Int), Builtin.Slice.slicePlaces ((sIx n 0 lo : Nat) : Int) ((sIx n n hi : Nat) : Int) 1)) _ _ s
  rw [rN]
  exact wpAny_pure h
theorem vn (xs : Array Value) (i k : Nat) : ((List.range k).filterMap fun (m : Nat) => xs[((i : Int) + (m : Int) * 1).toNat]?).toArray = ((xs.toList.drop i).take k).toArray := by
  have e : (fun (m : Nat) => xs[((i : Int) + (m : Int) * 1).toNat]?) = fun m => xs[i + m]? := by
    funext m
    have : ((i : Int) + (m : Int) * 1).toNat = i + m := by omega
    rw [this]
  rw [e]
  have := pick_run xs i k
  rw [List.filterMap_map] at this
  have e2 : ((fun x => xs[x]?) ∘ fun x => i + x) = fun m => xs[i + m]? := rfl
  rw [e2] at this
  rw [this]
theorem jh {t sl : Addr} {items : Array Value} {vl vu : Value} {lo hi : Option Int} {Q : Value -> Shared -> Prop} (ht : IsTup s.heap t items) (hs : s.heap.IsSliceOf sl vl vu .none) (pl : IsPart vl lo) (pu : IsPart vu hi)
    (hw : ¬ (sIx items.size 0 lo = 0 /\ sIx items.size items.size hi = items.size))
    (h : Q (.ref s.heap.objs.size) { s with heap := s.heap.push { cls := .type "tuple", data := .seq ((items.toList.drop (sIx items.size 0 lo)).take (sIx items.size items.size hi - sIx items.size 0 lo)).toArray } })
    (hsz : items.size <= sizeLine) : wpAny (model prog w) A (getItem (.ref t) (.ref sl)) Q E s := by
  have htake : sizeOk (.seq ((items.toList.drop (sIx items.size 0 lo)).take (sIx items.size items.size hi - sIx items.size 0 lo)).toArray) := by
    show ((items.toList.drop (sIx items.size 0 lo)).take (sIx items.size items.size hi - sIx items.size 0 lo)).toArray.size <= sizeLine
    rw [List.size_toArray, List.length_take, List.length_drop, Array.length_toList]
    omega
  have hj : sIx items.size items.size hi <= items.size := AE _ _ (Nat.le_refl _) hi
  obtain ⟨os, hos, hcs, hds⟩ := id hs
  have hTs : s.TypeIs (.ref sl) "slice" := ⟨os, hos, hcs⟩
  unfold getItem
  try with_reducible refine wpAny_holding ?_
  first | refine wpAny_bind (wpAny_pure ?_) | skip
  refine wpAny_bind (wpAny_sequenceKey ht.typeIs (by decide) ?_)
  refine wpAny_bind (wpAny_callSpecial?_slot (name := Str.ofString "__getitem__") ht.typeIs PyProof.Rows.slot_tuple_getitem
    (wpAny_call_entry PyProof.Rows.slot_tuple_getitem ht.typeIs entry_tuple_getitem ?_ (args_tuple_getitem _ _)))
  show wpAny _ _ (Builtin.Tuple.tupleItemsOf (.ref t) >>= _) _ _ s
  refine wpAny_bind (tupleItemsOf_ ht ?_)
  refine wpAny_bind (wpAny_typeOf hTs ?_)
  rw [if_pos (by decide)]
  refine wpAny_bind (fC hs pl pu ?_)
  have hno : ¬ ((((sIx items.size 0 lo : Nat) : Int) == 0 && (1 : Int) == 1 && (sIx items.size items.size hi - sIx items.size 0 lo) == items.size) = true) := by
    intro q
    rw [Bool.and_eq_true, Bool.and_eq_true] at q
    have q1 : ((sIx items.size 0 lo : Nat) : Int) = 0 := eq_of_beq q.1.1
    have q2 : sIx items.size items.size hi - sIx items.size 0 lo = items.size := eq_of_beq q.2
    exact hw ⟨by omega, by omega⟩
  show wpAny _ _ (if (((sIx items.size 0 lo : Nat) : Int) == 0 && (1 : Int) == 1 && (sIx items.size items.size hi - sIx items.size 0 lo) == items.size) = true then _ else _) _ _ s
  rw [if_neg hno, vn]
  first
    | exact wpAny_bind (m := Builtin.Tuple.tupleExact _) (wpAny_newObj_type (wpAny_pure ⟨_, rfl, wpAny_pure h⟩) htake)
    | exact wpAny_bind (m := Builtin.Tuple.tupleExact _) (wpAny_newObj_type (wpAny_bind (wpAny_pure (wpAny_pure ⟨_, rfl, wpAny_pure h⟩))) htake)
    | exact wpAny_bind (wpAny_bind (m := Builtin.Tuple.tupleExact _) (wpAny_newObj_type (wpAny_pure (wpAny_pure ⟨_, rfl, wpAny_pure h⟩)) htake))
    | exact wpAny_bind (wpAny_bind (m := Builtin.Tuple.tupleExact _) (wpAny_newObj_type (wpAny_pure ⟨_, rfl, wpAny_pure h⟩) htake))
end
end HT
namespace L2
open PySem PySem.Spec PyProof.Rows
noncomputable abbrev TO := St -> Hp -> (Option Int -> Hp -> Prop) -> Prop
noncomputable def PO (X : Cx) (e : Option Expr) (t : TO) : Prop :=
  ∀ (pins : List (Addr × Obj)) (s : Shared) (σ : St) (H : Hp) (Q : Option Int -> Hp -> Prop), Inv X pins σ H s -> t σ H Q →
    wpAny (model X.prog X.w) X.A (evalPart e X.env) (fun u s' => ∃ o H', Inv X pins σ H' s' /\ IsPart u o /\ Q o H') X.xe s
noncomputable def BU (t : TE) : TO := fun σ H Q => t σ H fun x H1 => ∃ i, x = .int i /\ Q (some i) H1
theorem intsAre_of {ns : List Int} : ∀ {us : List Value}, Vals (ns.map V.int) us -> IntsAre us ns := by
  induction ns with
  | nil => intro us r; rw [List.map_nil] at r; cases r; exact .nil
  | cons n ns ih =>
    intro us r
    rw [List.map_cons] at r
    cases r with
    | cons r1 r2 =>
      obtain ⟨t, e⟩ := r1
      subst e
      exact .cons n t (ih r2)
section
variable {X : Cx} {e : Expr} {te : TE} {lo hi : Option Expr} {tl th : TO} {pos p2 : Pos}
theorem yG (h : PE X e te) : PO X (some e) (BU te) := by
  intro pins s σ H Q I hw
  rw [evalPart_some]
  refine thn (h pins s σ H _ I hw) fun u s1 ⟨x, H1, I1, r1, q1⟩ => ?_
  obtain ⟨i, rfl, q⟩ := q1
  obtain ⟨t, rfl⟩ := r1
  exact ⟨some i, H1, I1, .int i t, q⟩
noncomputable def SlR (X : Cx) (r : V -> Option Int -> Option Int -> Hp -> VK -> Prop) : Prop :=
  ∀ (pins : List (Addr × Obj)) (s : Shared) (σ : St) (H : Hp) (x : V) (v vl vu : Value) (lo hi : Option Int) (sl : Addr) (Q : VK), Inv X pins σ H s -> RelV x v -> s.heap.IsSliceOf sl vl vu .none -> IsPart vl lo -> IsPart vu hi -> r x lo hi H Q →
    ∃ T id, typeLookup (.type T) "__getitem__" = pure (some (.builtin id)) /\ s.TypeIs v T /\ wpAny (model X.prog X.w) X.A (getItem v (.ref sl)) (EP X pins σ Q) X.xe s
theorem SlR.or {r r' : V -> Option Int -> Option Int -> Hp -> VK -> Prop} (h : SlR X r) (h' : SlR X r') : SlR X (fun x lo hi H Q => r x lo hi H Q \/ r' x lo hi H Q) := by
  intro pins s σ H x v vl vu lo hi sl Q I rx hs pl pu q
  rcases q with q | q
  · exact h pins s σ H x v vl vu lo hi sl Q I rx hs pl pu q
  · exact h' pins s σ H x v vl vu lo hi sl Q I rx hs pl pu q
noncomputable def tSl (r : V -> Option Int -> Option Int -> Hp -> VK -> Prop) (te : TE) (tl th : TO) : TE := fun σ H Q => te σ H fun x H1 => tl σ H1 fun l H2 => th σ H2 fun u H3 => r x l u H3 Q
theorem vm {r : V -> Option Int -> Option Int -> Hp -> VK -> Prop} (hr : SlR X r) (he : PE X e te) (hl : PO X lo tl) (hu : PO X hi th) : PE X (.Subscript e (.Slice lo hi none p2) pos) (tSl r te tl th) := by
  intro pins s σ H Q I h
  refine Subscript_ (thn (he pins s σ H _ I h) fun v s1 ⟨x, H1, I1, r1, q1⟩ => ?_)
  refine wpAny_Slice (thn (hl pins s1 σ H1 _ I1 q1) fun vl s2 ⟨l, H2, I2, pl, q2⟩ => thn (hu pins s2 σ H2 _ I2 q2) fun vu s3 ⟨u, H3, I3, pu, q3⟩ => ?_)
  rw [evalPart_none]
  refine wpAny_pure ?_
  have I4 : Inv X pins σ H3 { s3 with heap := s3.heap.push { cls := .type "slice", data := .fields #[vl, vu, .none] } } := I3.kept (t' := s3.toks) fun b ob q => Heap.get?_push_of_some _ q
  obtain ⟨T, id, hT, ht, hg⟩ := hr pins { s3 with heap := s3.heap.push { cls := .type "slice", data := .fields #[vl, vu, .none] } } σ H3 x v vl vu l u s3.heap.objs.size Q I4 r1 (Heap.IsSliceOf.new ..) pl pu q3
  show wpAny (model X.prog X.w) X.A (subscriptTail e (.Slice lo hi none p2) v (.ref s3.heap.objs.size)) (EP X pins σ Q) X.xe { s3 with heap := s3.heap.push { cls := .type "slice", data := .fields #[vl, vu, .none] } }
  exact tail_any (ops := [.ref s3.heap.objs.size, v]) ht hT hg (by with_unfolding_all rfl)
noncomputable def mC (xs : List V) (lo hi : Option Int) : List V := (xs.drop (HT.sIx xs.length 0 lo)).take (HT.sIx xs.length xs.length hi - HT.sIx xs.length 0 lo)
theorem j2 (xs : List V) (lo hi : Option Int) : (mC xs lo hi).length <= xs.length := by
  unfold mC
  rw [List.length_take, List.length_drop]
  omega
noncomputable def Dr (K : PySem.W.Frag) : V -> Option Int -> Option Int -> Hp -> VK -> Prop := fun x lo hi H Q => ∃ a xs, x = .ref a /\ SqT K H a xs ∧
  ¬ (HT.sIx xs.length 0 lo = 0 /\ HT.sIx xs.length xs.length hi = xs.length) /\ ∀ p, H p = none -> Q (.ref p) (upd H p (.tup (mC xs lo hi)))
theorem Ab : SlR X (Dr X.K) := by
  intro pins s σ H x v vl vu lo hi sl Q I rx hs pl pu h
  obtain ⟨a, xs, rfl, hx, hw, q⟩ := h
  cases rx
  obtain ⟨its, r, ht, hz⟩ := I.tuple hx
  have hlen : its.toArray.size = xs.length := by rw [List.size_toArray]; exact r.length.symm
  refine ⟨"tuple", _, PyProof.Rows.slot_tuple_getitem.lookup, ht.typeIs, ?_⟩
  refine HT.jh ht hs pl pu (by rw [hlen]; exact hw) ?_ (by rw [hlen]; exact hz)
  rw [hlen]
  refine ⟨.ref s.heap.objs.size, _, I.laid (t' := s.toks) (o := .tup (mC xs lo hi)) (fun b ob q => Heap.get?_push_of_some _ q) (Nat.le_refl _) ?_, rfl, q _ (I.hok.fresh (Nat.le_refl _))⟩
  exact ⟨Nat.le_trans (j2 xs lo hi) hz, _, (r.drop (HT.sIx xs.length 0 lo)).take (HT.sIx xs.length xs.length hi - HT.sIx xs.length 0 lo), ju.new _ _⟩
noncomputable def zD (K : PySem.W.Frag) : R2 := fun x y H Q => ∃ a b xs ys, x = .ref a /\ y = .ref b /\ SqT K H a xs /\ SqT K H b ys /\ xs ≠ [] /\ xs.length + ys.length <= sizeLine ∧
  (ys = [] -> Q (.ref a) H) /\ (ys ≠ [] -> ∀ p, H p = none -> Q (.ref p) (upd H p (.tup (xs ++ ys))))
theorem Vals.oX {xs : List V} {us : List Value} (r : Vals xs us) : us = [] ↔ xs = [] := by
  cases r with
  | nil => simp
  | cons _ _ => simp
theorem yY : OpR X (binaryOp .Add) (zD X.K) := by
  intro pins s σ H x y v u Q I rx ry h
  obtain ⟨a, b, xs, ys, rfl, rfl, ha, hb, hx, hz, q1, q2⟩ := h
  cases rx
  cases ry
  obtain ⟨its, r1, p1, _⟩ := I.tuple ha
  obtain ⟨its2, r2, p2, _⟩ := I.tuple hb
  refine HT.y0 p1 p2 (fun z => hx (r1.oX.mp z)) (fun z => ⟨.ref a, H, I, rfl, q1 (r2.oX.mp z)⟩) (fun z => ?_) (by rw [<- r1.length, <- r2.length]; exact hz)
  refine ⟨.ref s.heap.objs.size, _, I.laid (t' := s.toks) (o := .tup (xs ++ ys)) (fun b ob q => Heap.get?_push_of_some _ q) (Nat.le_refl _) ?_, rfl, q2 (fun w => z (r2.oX.mpr w)) _ (I.hok.fresh (Nat.le_refl _))⟩
  exact ⟨by rw [List.length_append]; exact hz, _, r1.append r2, ju.new _ _⟩
end
noncomputable def ixN (n : Nat) (i : Int) : Option Nat := if 0 <= i then (if i < n then some i.toNat else none) else if -(n : Int) <= i then some (i + n).toNat else none
noncomputable def atI {α : Type} (xs : List α) (i : Int) : Option α := (ixN xs.length i).bind fun j => xs[j]?
theorem tj {n : Nat} {i : Int} {j : Nat} (h : ixN n i = some j) : seqIndex? i n = some j /\ j < n /\ -(n : Int) <= i /\ i < n := by
  unfold ixN at h
  by_cases h0 : 0 <= i
  · rw [if_pos h0] at h
    by_cases h1 : i < n
    · rw [if_pos h1] at h
      have e : i.toNat = j := Option.some.inj h
      exact ⟨by rw [seqIndex_of h0 h1, e], by omega, by omega, h1⟩
    · rw [if_neg h1] at h; cases h
  · rw [if_neg h0] at h
    by_cases h1 : -(n : Int) <= i
    · rw [if_pos h1] at h
      have e : (i + n).toNat = j := Option.some.inj h
      exact ⟨by rw [seqIndex_neg (by omega) h1, e], by omega, h1, by omega⟩
    · rw [if_neg h1] at h; cases h
theorem kF {α : Type} {xs : List α} {i : Int} {v : α} (h : atI xs i = some v) : ∃ j, seqIndex? i xs.length = some j /\ xs[j]? = some v /\ j < xs.length /\ -(xs.length : Int) <= i /\ i < xs.length := by
  unfold atI at h
  cases e : ixN xs.length i with
  | none => rw [e] at h; cases h
  | some j =>
    rw [e] at h
    obtain ⟨h1, h2, h3, h4⟩ := tj e
    exact ⟨j, h1, h, h2, h3, h4⟩
theorem yQ {α : Type} {xs : List α} {j : Nat} {v : α} (h : xs[j]? = some v) : atI xs (j : Int) = some v := by
  have hj : j < xs.length := (List.getElem?_eq_some_iff.mp h).1
  have e : ixN xs.length (j : Int) = some j := by
    unfold ixN
    rw [if_pos (by omega), if_pos (by omega)]; simp
  unfold atI; rw [e]; exact h
noncomputable def sY (b : Expr) : Prop := ∀ o i, subscripted b false o i = operate [o, i] (getItem o i)
noncomputable def IxR (X : Cx) (r : R2) : Prop :=
  ∀ (value slice : Expr) (pins : List (Addr × Obj)) (s : Shared) (σ : St) (H : Hp) (x y : V) (v u : Value) (Q : VK), Inv X pins σ H s -> RelV x v -> RelV y u -> r x y H Q →
    subscripted slice false v u = operate [v, u] (getItem v u) -> wpAny (model X.prog X.w) X.A (subscriptTail value slice v u) (EP X pins σ Q) X.xe s
noncomputable def MtR (X : Cx) (id : String) (r : V -> List V -> Hp -> VK -> Prop) : Prop :=
  ∀ (pins : List (Addr × Obj)) (s : Shared) (σ : St) (H : Hp) (x : V) (xs : List V) (v : Value) (us : List Value) (Q : VK), Inv X pins σ H s -> RelV x v -> Vals xs us -> r x xs H Q →
    wpAny (model X.prog X.w) X.A (call (.builtin id) (v :: us)) (EP X pins σ Q) X.xe s
section
variable {X : Cx} {a b : Expr} {ta tb : TE} {pos : Pos}
theorem IxR.or {r r' : R2} (h : IxR X r) (h' : IxR X r') : IxR X (fun x y H Q => r x y H Q \/ r' x y H Q) := by
  intro value slice pins s σ H x y v u Q I rx ry q hs
  rcases q with q | q
  · exact h value slice pins s σ H x y v u Q I rx ry q hs
  · exact h' value slice pins s σ H x y v u Q I rx ry q hs
theorem BJ {r : R2} (hr : IxR X r) (ha : PE X a ta) (hb : PE X b tb) (hs : sY b) : PE X (.Subscript a b pos) (tOp r ta tb) := by
  intro pins s σ H Q I h
  exact Subscript_ (A5 ha hb I h fun v u s2 x y H2 I2 rx ry q => hr a b pins s2 σ H2 x y v u Q I2 rx ry q (hs _ _))
noncomputable def Av (K : PySem.W.Frag) : R2 := fun x y H Q => ∃ p xs i v, x = .ref p /\ y = .int i /\ SqL K H p xs /\ atI xs i = some v /\ Q v H
noncomputable def Cv (K : PySem.W.Frag) : R2 := fun x y H Q => ∃ p xs i v, x = .ref p /\ y = .int i /\ SqT K H p xs /\ atI xs i = some v /\ Q v H
noncomputable def Cp : R2 := fun x y H Q => ∃ z i c, x = .str z /\ y = .int i /\ z.length <= sizeLine /\ atI z.cps.toList i = some c /\ Q (.str ⟨#[c]⟩) H
theorem yR : IxR X (Av X.K) := by
  intro value slice pins s σ H x y v u Q I rx ry h hs
  obtain ⟨p, xs, i, z, rfl, rfl, hq, he, q⟩ := h
  cases rx
  obtain ⟨t, rfl⟩ := ry
  obtain ⟨its, r, pl, hz⟩ := I.list hq
  obtain ⟨j, h1, h2, h3, h4, h5⟩ := kF he
  obtain ⟨w, ew, rw'⟩ := r.get h2
  have hl := r.length
  have hn := gT
  have fin : EP X pins σ Q w s := ⟨z, H, I, rw', q⟩
  by_cases h0 : 0 <= i
  · have hj : i.toNat = j := by
      rw [seqIndex_of h0 h5] at h1
      exact Option.some.inj h1
    exact item_listR pl.isList h0 (by omega) (by rw [hj]; simpa using ew) fin hs
  · have hj : (i + (its.toArray.size : Int)).toNat = j := by
      rw [seqIndex_neg (by omega) h4] at h1
      rw [List.size_toArray, <- hl]
      exact Option.some.inj h1
    exact subscriptTail_builtinR (x := w) pl.isList.typeIs slot_list_getitem.lookup
      (wpAny_getItem_list_neg (Q := fun r s' => r = w /\ EP X pins σ Q r s') pl.isList (by omega) (by rw [List.size_toArray] <;> omega) (by omega) (by rw [hj]; simpa using ew) ⟨rfl, fin⟩) hs
theorem Az : IxR X (Cv X.K) := by
  intro value slice pins s σ H x y v u Q I rx ry h hs
  obtain ⟨p, xs, i, z, rfl, rfl, hq, he, q⟩ := h
  cases rx
  obtain ⟨t, rfl⟩ := ry
  obtain ⟨its, r, pl, hz⟩ := I.tuple hq
  obtain ⟨j, h1, h2, h3, h4, h5⟩ := kF he
  obtain ⟨w, ew, rw'⟩ := r.get h2
  have hl := r.length
  have hn := gT
  have fin : EP X pins σ Q w s := ⟨z, H, I, rw', q⟩
  exact subscriptTail_builtinR (x := w) pl.typeIs slot_tuple_getitem.lookup
    (getItem_tuple (j := j) (Q := fun r s' => r = w /\ EP X pins σ Q r s') pl (by omega) (by omega) (by rw [List.size_toArray, <- hl]; exact h1) (by simpa using ew) ⟨rfl, fin⟩) hs
theorem Bx : IxR X Cp := by
  intro value slice pins s σ H x y v u Q I rx ry h hs
  obtain ⟨z, i, c, rfl, rfl, hz, he, q⟩ := h
  obtain ⟨t, rfl⟩ := rx
  obtain ⟨t', rfl⟩ := ry
  obtain ⟨j, h1, h2, h3, h4, h5⟩ := kF he
  have hl : z.cps.toList.length = z.length := by simp [Str.length]
  rw [hl] at h1 h4 h5
  have hn := gT
  exact tail_any (typeIs_str s z t) slot_str_getitem.lookup (getItem_str (c := c) (by
    have e1 : decide (i < -(2 ^ 63 : Int)) = false := decide_eq_false (by omega)
    have e2 : decide (i ≥ 2 ^ 63) = false := decide_eq_false (by omega)
    rw [e1, e2, Bool.or_false]) (by rw [h1]; simpa using h2) ⟨.str ⟨#[c]⟩, H, I.tok _, ⟨_, rfl⟩, q⟩) hs
noncomputable def rIx (K : PySem.W.Frag) : R2 := fun x y H Q => Av K x y H Q \/ Cv K x y H Q \/ Cp x y H Q
theorem cy : IxR X (rIx X.K) := yR.or (Az.or Bx)
theorem rA (its : List Value) (n j : Nat) (u : Value) : Obj.mapSeq (·.setIfInBounds j u) { cls := .type "list", data := .seq its.toArray n } = { cls := .type "list", data := .seq (its.set j u).toArray n } := by
  simp [Obj.mapSeq]
theorem Inv.lst {pins : List (Addr × Obj)} {σ : St} {H : Hp} {s : Shared} {p : Addr} {xs : List V} (I : Inv X pins σ H s) (h : H p = some (.lst xs)) :
    ∃ (its : List Value) (n : Nat), Vals xs its /\ s.heap.get? p = some { cls := .type "list", data := .seq its.toArray n } /\ xs.length <= sizeLine := by
  obtain ⟨z, its, n, r, e⟩ := I.hok p _ h
  exact ⟨its, n, r, e, z⟩
theorem Inv.Bo {pins : List (Addr × Obj)} {σ : St} {H : Hp} {s : Shared} {p : Addr} {xs ys : List V} {its its' : List Value} {n n' : Nat} {f : Obj -> Obj} (I : Inv X pins σ H s) (h : H p = some (.lst xs))
    (ho : s.heap.get? p = some { cls := .type "list", data := .seq its.toArray n }) (hf : f { cls := .type "list", data := .seq its.toArray n } = { cls := .type "list", data := .seq its'.toArray n' }) (r : Vals ys its') (hz : ys.length <= sizeLine) (t : Nat) :
    Inv X pins σ (upd H p (.lst ys)) { s with heap := s.heap.update p f, toks := t } := by
  have e : (s.heap.update p f).get? p = some { cls := .type "list", data := .seq its'.toArray n' } := by
    rw [Heap.get?_update_self f ho (by rw [hf] <;> rfl), hf]
  refine I.write (x := p) (e := p) (by rw [h]; trivial) (.inl rfl) (fun b u hb q => (Heap.get?_update_other _ _ (Ne.symm hb)).trans q) ⟨_, e⟩ ?_
  exact ⟨hz, its', n', r, e⟩
noncomputable def zN : V -> V -> V -> Hp -> (Hp -> Prop) -> Prop := fun o i v H Q => ∃ p xs k j, o = .ref p /\ i = .int k /\ H p = some (.lst xs) /\ ixN xs.length k = some j /\ Q (upd H p (.lst (xs.set j v)))
theorem set_list : xZ X zN := by
  intro pins s σ H o i v ov iv u Q I ro ri rv h
  obtain ⟨p, xs, k, j, rfl, rfl, hp, hj, q⟩ := h
  cases ro
  obtain ⟨t, rfl⟩ := ri
  obtain ⟨its, n, r, ho, hz⟩ := I.lst hp
  obtain ⟨h1, h2, h3, h4⟩ := tj hj
  have hl := r.length
  have hn := gT
  have I' : Inv X pins σ (upd H p (.lst (xs.set j v))) { s with heap := s.heap.update p (Obj.mapSeq (·.setIfInBounds j u)) } :=
    I.Bo hp ho (rA its n j u) (r.set rv j) (by rw [List.length_set]; exact hz) s.toks
  by_cases h0 : 0 <= k
  · have hk : k.toNat = j := by
      rw [seqIndex_of h0 h4] at h1
      exact Option.some.inj h1
    exact PySem.W.ki_setAt ho h0 (by omega) (by rw [List.size_toArray, <- hl]; exact h4) (by rw [hk]; exact ⟨_, I', q⟩)
  · have hk : (k + (its.toArray.size : Int)).toNat = j := by
      rw [seqIndex_neg (by omega) h3] at h1
      rw [List.size_toArray, <- hl]
      exact Option.some.inj h1
    exact PySem.W.ki_setBack ho (by omega) (by rw [List.size_toArray, <- hl]; exact h3) (by omega) (by rw [hk]; exact ⟨_, I', q⟩)
theorem pR (lo hi : Option Int) (n : Nat) : (sliceBounds lo hi none n).1 = ((HT.sIx n 0 lo : Nat) : Int) /\ (sliceBounds lo hi none n).2.1 = ((HT.sIx n n hi : Nat) : Int) /\ (sliceBounds lo hi none n).2.2 = 1 := by
  refine ⟨?_, ?_, rfl⟩
  · cases lo with
    | none => simp [sliceBounds, HT.sIx]
    | some i =>
      simp only [sliceBounds, HT.sIx, Option.getD_none, show (1 : Int) > 0 by decide, if_true]
      by_cases h : i < 0
      · simp only [h, if_true] <;> omega
      · simp only [h, if_false] <;> omega
  · cases hi with
    | none => simp [sliceBounds, HT.sIx]
    | some i =>
      simp only [sliceBounds, HT.sIx, Option.getD_none, show (1 : Int) > 0 by decide, if_true]
      by_cases h : i < 0
      · simp only [h, if_true] <;> omega
      · simp only [h, if_false] <;> omega
theorem mH (its : List Value) (lo hi : Option Int) : slicePick its.toArray lo hi none = ((its.drop (HT.sIx its.length 0 lo)).take (HT.sIx its.length its.length hi - HT.sIx its.length 0 lo)).toArray := by
  obtain ⟨h1, h2, h3⟩ := pR lo hi its.toArray.size
  unfold slicePick
  rw [h1, h2, h3]
  simp only [sliceRange_one, pick_run, List.size_toArray] <;> rfl
noncomputable def D_ (K : PySem.W.Frag) : V -> Option Int -> Option Int -> Hp -> VK -> Prop := fun x lo hi H Q => ∃ a xs, x = .ref a /\ SqL K H a xs /\ ∀ p, H p = none -> Q (.ref p) (upd H p (.lst (mC xs lo hi)))
theorem zo : SlR X (D_ X.K) := by
  intro pins s σ H x v vl vu lo hi sl Q I rx hs pl pu h
  obtain ⟨a, xs, rfl, hx, q⟩ := h
  cases rx
  obtain ⟨its, r, ht, hz⟩ := I.list hx
  have hlen := r.length
  refine ⟨"list", _, slot_list_getitem.lookup, ht.isList.typeIs, ?_⟩
  refine wpAny_getItem_list_slice ht.isList hs pl pu .none (by simp) ?_ (by rw [List.size_toArray] <;> omega)
  rw [mH, <- hlen]
  refine ⟨.ref s.heap.objs.size, _, I.laid (t' := s.toks) (o := .lst (mC xs lo hi)) (fun b ob q => Heap.get?_push_of_some _ q) (Nat.le_refl _) ?_, rfl, q _ (I.hok.fresh (Nat.le_refl _))⟩
  exact ⟨Nat.le_trans (j2 xs lo hi) hz, _, 0, (r.drop (HT.sIx xs.length 0 lo)).take (HT.sIx xs.length xs.length hi - HT.sIx xs.length 0 lo), Heap.get?_push_size _ rfl⟩
noncomputable def ik : V -> Bool
  | .non => true
  | .bl _ => true
  | .int _ => true
  | .str _ => true
  | _ => false
noncomputable def eqV : V -> V -> Bool
  | .non, .non => true
  | .bl a, .bl b => a == b
  | .bl a, .int b => (if a then 1 else 0) == b
  | .int a, .bl b => a == (if b then 1 else 0)
  | .int a, .int b => a == b
  | .str a, .str b => a == b
  | _, _ => false
theorem Bw {A : Around} {s : Shared} {y x : V} {u v : Value} (ry : RelV y u) (rx : RelV x v) (fy : ik y = true) (fx : ik x = true) : SeqAt.EqAt A s u v (eqV y x) := by
  cases y with
  | non =>
    cases ry
    cases x with
    | non => cases rx; exact SeqAt.EqAt.same _
    | bl b => cases rx; exact SeqAt.EqAt.none_bool b
    | int b => obtain ⟨t, rfl⟩ := rx; exact SeqAt.EqAt.none_int b t
    | str b => obtain ⟨t, rfl⟩ := rx; exact SeqAt.EqAt.none_str b t
    | _ => exact absurd (show false = true from fx) Bool.false_ne_true
  | bl a =>
    cases ry
    cases x with
    | non => cases rx; exact SeqAt.EqAt.bool_none a
    | bl b => cases rx; exact SeqAt.EqAt.bool_bool a b
    | int b => obtain ⟨t, rfl⟩ := rx; exact SeqAt.EqAt.bool_int a b t
    | str b => obtain ⟨t, rfl⟩ := rx; exact SeqAt.EqAt.bool_str a b t
    | _ => exact absurd (show false = true from fx) Bool.false_ne_true
  | int a =>
    obtain ⟨t', rfl⟩ := ry
    cases x with
    | non => cases rx; exact SeqAt.EqAt.int_none a t'
    | bl b => cases rx; exact SeqAt.EqAt.int_bool a t' b
    | int b => obtain ⟨t, rfl⟩ := rx; exact SeqAt.EqAt.int_int a t' b t
    | str b => obtain ⟨t, rfl⟩ := rx; exact SeqAt.EqAt.int_str a t' b t
    | _ => exact absurd (show false = true from fx) Bool.false_ne_true
  | str a =>
    obtain ⟨t', rfl⟩ := ry
    cases x with
    | non => cases rx; exact SeqAt.EqAt.str_none a t'
    | bl b => cases rx; exact SeqAt.EqAt.str_bool a t' b
    | int b => obtain ⟨t, rfl⟩ := rx; exact SeqAt.EqAt.str_int a t' b t
    | str b => obtain ⟨t, rfl⟩ := rx; exact SeqAt.EqAt.str_str a t' b t
    | _ => exact absurd (show false = true from fx) Bool.false_ne_true
  | _ => exact absurd (show false = true from fy) Bool.false_ne_true
noncomputable def eqU (x : V) (u : Value) : Bool := match u with
  | .none => eqV .non x
  | .bool b => eqV (.bl b) x
  | .int i _ => eqV (.int i) x
  | .str z _ => eqV (.str z) x
  | _ => false
theorem wq {x y : V} {u : Value} (r : RelV y u) (f : ik y = true) : eqU x u = eqV y x := by
  cases y with
  | non => cases r; rfl
  | bl b => cases r; rfl
  | int i => obtain ⟨t, rfl⟩ := r; rfl
  | str z => obtain ⟨t, rfl⟩ := r; rfl
  | _ => exact absurd (show false = true from f) Bool.false_ne_true
theorem pT {x : V} : ∀ {xs : List V} {us : List Value}, Vals xs us -> xs.all ik = true -> us.any (eqU x) = xs.any fun y => eqV y x
  | _, _, .nil, _ => rfl
  | y :: xs, u :: us, .cons r t, f => by
    rw [List.all_cons, Bool.and_eq_true] at f
    rw [List.any_cons, List.any_cons, wq r f.1, pT t f.2]
theorem l8 {A : Around} {s : Shared} {x : V} {v : Value} (rx : RelV x v) (fx : ik x = true) : ∀ {xs : List V} {us : List Value}, Vals xs us -> xs.all ik = true -> ∀ u ∈ us, SeqAt.EqAt A s u v (eqU x u)
  | _, _, .nil, _ => fun u hu => by cases hu
  | y :: xs, u :: us, .cons r t, f => fun u' hu => by
    rw [List.all_cons, Bool.and_eq_true] at f
    rcases List.mem_cons.mp hu with rfl | hu
    · rw [wq r f.1]; exact Bw r rx f.1 fx
    · exact l8 rx fx t f.2 u' hu
noncomputable def inV (x : V) (xs : List V) : Bool := xs.any fun y => eqV y x
noncomputable def rIn (K : PySem.W.Frag) (neg : Bool) : R2 := fun x y H Q => ∃ p xs, y = .ref p /\ (SqL K H p xs \/ SqT K H p xs) /\ ik x = true /\ xs.all ik = true /\ Q (.bl (if neg then !inV x xs else inV x xs)) H
theorem tN : OpR X (compareOp .In) (rIn X.K false) := by
  intro pins s σ H x y v u Q I rx ry h
  obtain ⟨p, xs, rfl, hq, fx, fs, q⟩ := h
  cases ry
  rcases hq with hq | hq
  · obtain ⟨its, r, pl, hz⟩ := I.list hq
    refine SeqAt.in_listAt (eqU x) pl.isList (fun w hw => l8 rx fx r fs w (by simpa using hw)) ⟨.bl _, H, I, rfl, ?_⟩
    rw [show its.toArray.any (eqU x) = its.any (eqU x) by simp, pT r fs]
    exact q
  · obtain ⟨its, r, pl, hz⟩ := I.tuple hq
    refine SeqAt.in_tupleAt (eqU x) pl (fun w hw => l8 rx fx r fs w (by simpa using hw)) ⟨.bl _, H, I, rfl, ?_⟩
    rw [show its.toArray.any (eqU x) = its.any (eqU x) by simp, pT r fs]
    exact q
theorem oQ : bu X (.builtin "len") (fun xs H Q => ∃ p ys, xs = [.ref p] /\ (SqL X.K H p ys \/ SqT X.K H p ys) /\ Q (.int ys.length) H) := by
  intro pins s σ H xs us Q I r h
  obtain ⟨p, ys, rfl, hq, q⟩ := h
  obtain ⟨u, rfl, rx⟩ := vals1 r
  cases rx
  have hn := gT
  rcases hq with hq | hq
  · obtain ⟨its, r', pl, hz⟩ := I.list hq
    have hlen := r'.length
    exact Calls.call_len_list pl.isList (by simp only [List.size_toArray] <;> omega) ⟨.int ys.length, H, I.tok _, ⟨s.toks + 1, by rw [List.size_toArray, hlen]⟩, q⟩
  · obtain ⟨its, r', pl, hz⟩ := I.tuple hq
    have hlen := r'.length
    exact len_tuple pl (by simp only [List.size_toArray] <;> omega) ⟨.int ys.length, H, I.tok _, ⟨s.toks + 1, by rw [List.size_toArray, hlen]⟩, q⟩
theorem n6 : bu X (.builtin "len") (fun xs H Q => ∃ z, xs = [.str z] /\ z.length <= sizeLine /\ Q (.int z.length) H) := by
  intro pins s σ H xs us Q I r h
  obtain ⟨z, rfl, hz, q⟩ := h
  obtain ⟨u, rfl, t, rfl⟩ := vals1 r
  have hn := gT
  exact len_str (by omega) ⟨.int z.length, H, I.tok _, ⟨_, rfl⟩, q⟩
theorem bu.or {f : Value} {r r' : List V -> Hp -> VK -> Prop} (h : bu X f r) (h' : bu X f r') : bu X f (fun xs H Q => r xs H Q \/ r' xs H Q) := by
  intro pins s σ H xs us Q I rs q
  rcases q with q | q
  · exact h pins s σ H xs us Q I rs q
  · exact h' pins s σ H xs us Q I rs q
theorem df : bu X (.type "tuple") (fun xs H Q => ∃ p ys, xs = [.ref p] /\ ((SqL X.K H p ys /\ ∀ l, H l = none -> Q (.ref l) (upd H l (.tup ys))) \/ (SqT X.K H p ys /\ Q (.ref p) H))) := by
  intro pins s σ H xs us Q I r h
  obtain ⟨p, ys, rfl, h⟩ := h
  obtain ⟨u, rfl, rx⟩ := vals1 r
  cases rx
  rcases h with ⟨hq, q⟩ | ⟨hq, q⟩
  · obtain ⟨its, r', pl, hz⟩ := I.list hq
    have hlen := r'.length
    refine call_tuple_list pl.isList (fun h' kp => ?_) (by simp only [List.size_toArray] <;> omega)
    have I1 : Inv X pins σ H { s with heap := h' } := I.kept (t' := s.toks) kp
    have I2 : Inv X pins σ (upd H h'.objs.size (.tup ys)) { s with heap := h'.push { cls := .type "tuple", data := .seq its.toArray } } :=
      I1.laid (t' := s.toks) (fun b o e => Heap.get?_push_of_some _ e) (Nat.le_refl _) (show bc X.prog X.w _ _ _ (.tup ys) from ⟨hz, its, r', ju.new _ _⟩)
    exact ⟨.ref h'.objs.size, _, I2, rfl, q _ (I1.hok.fresh (Nat.le_refl _))⟩
  · obtain ⟨its, r', pl, hz⟩ := I.tuple hq
    exact call_tuple_same pl ⟨.ref p, H, I, rfl, q⟩
noncomputable def tyV (K : PySem.W.Frag) (T : String) (x : V) (H : Hp) : Prop := match x with
  | .str _ => T = "str"
  | .int _ => T = "int"
  | .ref p => (T = "list" /\ ∃ xs, SqL K H p xs) \/ (T = "tuple" /\ ∃ o, K.lookup p = some o /\ o.cls = .type "tuple" /\ o.dict = none) ∨
      (T = "dict" /\ ((∃ kvs, H p = some (.dK kvs)) \/ ∃ kvs, H p = some (.dT kvs))) \/ (T = "set" /\ ∃ S n, H p = some (.set S n)) \/ (T = "tuple" /\ ∃ xs, H p = some (.tup xs))
  | _ => False
theorem A4 {pins : List (Addr × Obj)} {σ : St} {H : Hp} {s : Shared} {T : String} {x : V} {v : Value} (I : Inv X pins σ H s) (r : RelV x v) (ty : tyV X.K T x H) :
    s.TypeIs v T /\ ∀ a, v = .ref a -> ∃ ob, s.heap.get? a = some ob /\ ob.dict = none := by
  cases x with
  | str z =>
    obtain ⟨t, rfl⟩ := r
    cases (show T = "str" from ty)
    exact ⟨typeIs_str s z t, fun _ e => nomatch e⟩
  | int i =>
    obtain ⟨t, rfl⟩ := r
    cases (show T = "int" from ty)
    exact ⟨typeIs_int s i t, fun _ e => nomatch e⟩
  | ref p =>
    cases r
    rcases ty with ⟨rfl, xs, hq⟩ | ⟨rfl, o, hk, hc, hd⟩ | ⟨rfl, hk⟩ | ⟨rfl, S, n, hk⟩ | ⟨rfl, xs, hk⟩
    · obtain ⟨its, _, pl, _⟩ := I.list hq
      refine ⟨pl.isList.typeIs, fun a e => ?_⟩
      cases e
      obtain ⟨o, n, e, c, hd, _⟩ := pl
      exact ⟨o, e, hd⟩
    · refine ⟨⟨o, I.kIn p o hk, hc⟩, fun a e => ?_⟩
      cases e
      exact ⟨o, I.kIn _ o hk, hd⟩
    · have z : ∃ o, s.heap.get? p = some o /\ o.ExactDict := by
        rcases hk with ⟨kvs, hk⟩ | ⟨kvs, hk⟩
        · obtain ⟨_, _, _, _, o, _, _, e, ex, _⟩ := I.hok p _ hk
          exact ⟨o, e, ex⟩
        · obtain ⟨_, _, _, _, o, _, _, e, ex, _⟩ := I.hok p _ hk
          exact ⟨o, e, ex⟩
      obtain ⟨o, e, ex⟩ := z
      refine ⟨⟨o, e, ex.1⟩, fun a e2 => ?_⟩
      cases e2
      exact ⟨o, e, ex.2.1⟩
    · obtain ⟨o, _, _, _, e, ex, _⟩ := I.hok p _ hk
      refine ⟨⟨o, e, ex.1⟩, fun a e2 => ?_⟩
      cases e2
      exact ⟨o, e, ex.2.1⟩
    · obtain ⟨_, _, _, o, e, ⟨c, _⟩, hd⟩ := I.hok p _ hk
      refine ⟨⟨o, e, c⟩, fun a e2 => ?_⟩
      cases e2
      exact ⟨o, e, hd⟩
  | _ => exact False.elim ty
noncomputable def tBM (K : PySem.W.Frag) (T : String) (r : V -> List V -> Hp -> VK -> Prop) (to : TE) (t : TA) : TE := fun σ H Q => to σ H fun x H1 => tyV K T x H1 /\ t σ H1 fun xs H2 => r x xs H2 Q
variable {o e : Expr} {es : List Expr} {to : TE} {t : TA} {name : Str} {apos cpos : Pos} {T id : String} {r : V -> List V -> Hp -> VK -> Prop}
theorem CG (pa : PlainAttrs T) (slot : Slot T name id) (hty : typeOf (.builtin id) = pure (.type "method_descriptor")) (hm : MtR X id r) (ho : PE X o to) (ha : PA X (e :: es) t)
    (hbase : attributeBase o name X.env (eval o X.env) = eval o X.env := by rfl)
    (hfew : ((backTo cpos (starEach (e :: es) X.env)).all (fun x => !x.1) && (backToKw cpos (keywordEach [] X.env)).all (fun x => x.1.isSome)
      && decide ((e :: es).length + ([] : List Keyword).length + (if ([] : List Keyword).isEmpty then 0 else 1) < 30)) = true := by rfl)
    (hline : (apos.endLine == cpos.line) = true := by rfl) (hs : starEach (e :: es) X.env = (false, eval e X.env) :: starEach es X.env := by rfl) (hplain : (backTo cpos (starEach es X.env)).any (·.1) = false := by rfl) :
    PE X (.Call (.Attribute o name apos) (e :: es) [] cpos) (tBM X.K T r to t) := by
  intro pins s σ H Q I h
  refine wpAny_Call_method_late hbase hfew hline rfl (thn (ho pins s σ H _ I h) fun v s1 ⟨x, H1, I1, r1, ty, q1⟩ => ?_)
  obtain ⟨h1, h2⟩ := A4 I1 r1 ty
  refine ⟨T, id, pa, slot, hty, h1, h2, ?_⟩
  have hA := ha cpos pins s1 σ H1 _ I1 q1
  rw [hs] at hA ⊢
  refine Calls.callWith_builtin (by show (false || (backTo cpos (starEach es X.env)).any (·.1)) = false; rw [hplain] <;> rfl) (Calls.evalArgs_plain ?_)
  exact thn hA fun us s2 ⟨vs, H2, I2, r2, q2⟩ => hm pins s2 σ H2 x vs v us Q I2 r1 r2 q2
/- xs.append(e), list.index on a module's tuple .. are MtR facts of 06m -/
end
noncomputable def MtM (X : Cx) (id : String) (r : V -> List V -> Hp -> VK -> Prop) : Prop :=
  ∀ (pins : List (Addr × Obj)) (s : Shared) (σ : St) (H : Hp) (x : V) (xs : List V) (v : Value) (us : List Value) (Q : VK), Inv X pins σ H s -> RelV x v -> Vals xs us -> r x xs H Q →
    wpAny (model X.prog X.w) X.A (call (.builtin id) (v :: us)) (EP X pins σ Q) X.xe s
theorem Vals.one : ∀ {x : V} {us : List Value}, Vals [x] us -> ∃ u, us = [u] /\ RelV x u
  | _, _, .cons r .nil => ⟨_, rfl, r⟩
theorem Vals.reverse {xs : List V} {us : List Value} (h : Vals xs us) : Vals xs.reverse us.reverse := by
  induction h with
  | nil => exact .nil
  | cons r t ih => rw [List.reverse_cons, List.reverse_cons]; exact Vals.append ih (.cons r .nil)
theorem Vals.rep {xs : List V} {us : List Value} (h : Vals xs us) : ∀ k : Nat, Vals (List.replicate k xs).flatten (List.replicate k us).flatten
  | 0 => .nil
  | k + 1 => by
    rw [List.replicate_succ, List.replicate_succ, List.flatten_cons, List.flatten_cons]
    exact Vals.append h (Vals.rep h k)
theorem foldl_rep (its : List Value) : ∀ (k : Nat) (acc : List Value),
    List.foldl (fun x1 x2 => x1 ++ x2) acc.toArray (List.replicate k its.toArray) = (acc ++ (List.replicate k its).flatten).toArray
  | 0, acc => by simp
  | k + 1, acc => by
    have e : acc.toArray ++ its.toArray = (acc ++ its).toArray := by simp
    have e2 : (acc ++ its) ++ (List.replicate k its).flatten = acc ++ (List.replicate (k + 1) its).flatten := by
      rw [List.replicate_succ, List.flatten_cons, List.append_assoc]
    rw [<- e2, <- foldl_rep its k (acc ++ its), <- e, List.replicate_succ, List.foldl_cons]
section
variable {X : Cx} {pins : List (Addr × Obj)} {σ : St} {H : Hp} {s : Shared} {l b : Addr} {xs ys zs : List V}
theorem Inv.Co {its its' : List Value} {n : Nat} {f : Array Value -> Array Value} {t' : Nat} (I : Inv X pins σ H s) (hH : H l = some (.lst xs))
    (e : s.heap.get? l = some { cls := .type "list", data := .seq its.toArray n }) (hf : f its.toArray = its'.toArray) (hv : Vals ys its') (hz : ys.length <= sizeLine) :
    Inv X pins σ (upd H l (.lst ys)) { s with heap := s.heap.update l (Obj.mapSeq f), toks := t' } := by
  have q := PySem.IsL.update e f
  rw [hf] at q
  refine I.write (x := l) (e := l) (by rw [hH]; exact trivial) (.inl rfl) (fun b' u hb hu => (Heap.get?_update_other s.heap (Obj.mapSeq f) (Ne.symm hb)).trans hu) ⟨_, q⟩ ?_
  exact ⟨hz, its', _, hv, q⟩
theorem Inv.Bz {its : List Value} {t' : Nat} (I : Inv X pins σ H s) (hv : Vals ys its) (hz : ys.length <= sizeLine) :
    Inv X pins σ (upd H s.heap.objs.size (.lst ys)) { s with heap := s.heap.push { cls := .type "list", data := .seq its.toArray }, toks := t' } :=
  I.laid (fun _ _ q => Heap.get?_push_of_some _ q) (Nat.le_refl _) ⟨hz, its, 0, hv, Heap.get?_push_size _ rfl⟩
theorem Inv.fresh (I : Inv X pins σ H s) : H s.heap.objs.size = none := I.hok.fresh (Nat.le_refl _)
theorem Inv.BS (I : Inv X pins σ H s) (hH : H l = some (.lst xs)) : xs.length <= sizeLine /\ ∃ (its : List Value) (n : Nat), Vals xs its /\ xs.length = its.length /\ s.heap.get? l = some { cls := .type "list", data := .seq its.toArray n } := by
  obtain ⟨z, its, n, r, e⟩ := I.hok l _ hH
  exact ⟨z, its, n, r, r.length, e⟩
theorem p9 {n : Nat} (h : n <= sizeLine) : Builtin.List.listTooLong n = false := by
  unfold Builtin.List.listTooLong
  exact decide_eq_false (by omega)
end
section
variable {X : Cx}
noncomputable def zm : V -> List V -> Hp -> VK -> Prop := fun x vs H Q => ∃ l xs y, x = .ref l /\ vs = [y] /\ H l = some (.lst xs) /\ xs.length < sizeLine /\ Q .non (upd H l (.lst (xs ++ [y])))
theorem uN : MtM X "list.append" zm := by
  intro pins s σ H x vs v us Q I rx rv h
  obtain ⟨l, xs, y, rfl, rfl, hH, hz, q⟩ := h
  cases rx
  obtain ⟨u, rfl, ru⟩ := rv.one
  obtain ⟨z, its, n, r, hl, e⟩ := I.BS hH
  refine call_meets F.slot_list_append ⟨_, e, rfl⟩ F.entry_list_append (F.args_list_append_2 _ _) (PySem.list_append l its.toArray n u (by rw [List.size_toArray]; omega)) ⟨e, ?_⟩
  refine ⟨.non, _, I.Co (its' := its ++ [u]) hH e (by simp) (r.append (.cons ru .nil)) ?_, rfl, q⟩
  rw [List.length_append, List.length_singleton]
  omega
theorem len_rep {α : Type} (xs : List α) (k : Nat) : (List.replicate k xs).flatten.length = k * xs.length := by
  induction k with
  | zero => simp
  | succ k ih => rw [List.replicate_succ, List.flatten_cons, List.length_append, ih, Nat.succ_mul, Nat.add_comm]
end
end L2
namespace Att
open PySem PySem.W PySem.Calls PyProof.Rows
theorem kB {P : Params} {h : Heap} : ∀ (ns : List Int) (vs : List Value), WellAll P h vs (ns.map WData.int) -> IntsAre vs ns := by
  intro ns
  induction ns with
  | nil =>
    intro vs w
    rw [List.map_nil] at w
    cases w
    exact .nil
  | cons n ns ih =>
    intro vs w
    rw [List.map_cons] at w
    cases w with
    | cons a b =>
      cases a
      exact .cons _ _ (ih _ b)
theorem tW {l : OpenLaw} {n : Nat} (hn : l.most = some n) {P : Params} {h : Heap} {args : List WData} {vals : List Value}
    (hpre : l.row.toRowW.claim.pre args = true) (hwl : WellAll P h vals args) :
    ∃ a vs ns, vals = [Value.ref a] /\ args = [WData.list (ns.map WData.int)] /\ h.get? a = some { cls := .type "list", data := .seq vs.toArray } /\ IntsAre vs ns /\ ns.length <= n := by
  have hsh : WShape.hasAll [] args [.list .int] = true := (pre_splitW hpre).1
  have hc : l.pre.holds [] { args := args } = true := (pre_splitW hpre).2
  obtain ⟨d, r, rfl, h1, h2⟩ := hasAllW_cons hsh
  obtain rfl := hasAllW_nil h2
  obtain ⟨xs, rfl, h3⟩ := hasW_list h1
  obtain ⟨ns, rfl⟩ := items_int h3
  have hlen : ns.length <= n := by
    unfold OpenLaw.pre at hc
    have h4 : (WTm.not (.lt (.lit (.int (n : Int))) (.len (.arg 0)))).holds [] { args := [.list (ns.map .int)] } = true := by
      have h4 := (holds_andW hc).1
      rw [hn] at h4
      exact h4
    have h5 := condW_of h4 (w_not (w_lt w_lit (w_len_list (w_arg rfl))))
    rw [List.length_map] at h5
    refine Nat.le_of_not_lt fun q => ?_
    have q' : (n : Int) < ((ns.length : Nat) : Int) := by omega
    first
      | (rw [decide_eq_true q'] at h5; exact absurd h5 (by decide))
      | (simp at h5; omega)
  cases hwl with
  | cons w1 w2 =>
    cases w2
    cases w1 with
    | list ho hall => exact ⟨_, _, ns, rfl, rfl, ho, kB ns _ hall, hlen⟩
theorem tH (l : OpenLaw) (args : List WData) : l.row.toRowW.claim.post args (.bool true) args = true :=
  postW_of (r := l.row.toRowW) (X := (true == true))
    (show WShape.has [] (.bool true) .bool = true by first | rfl | decide | simp [WShape.has, WShape.arms, WShape.armsAll])
    (show (WTm.eq .res (.lit (.bool true))).value [] { args := args, res := some (.bool true), after := args } = some (.bool (true == true)) from w_eq_bool (w_res rfl) w_lit) rfl
theorem qp {l : OpenLaw} {n : Nat} {q : Program} {loose : List Str} {XP : (Str -> Option Value) -> Heap -> Prop} {YP : World -> Heap -> Prop} {d : DefRec}
    (hn : l.most = some n) (hdf : d.params.defaults = [])
    (call : ∀ (w : World) (aH s₁ : Shared) (mg mb : Str -> Option Value) (fa : Addr) (o : Obj) (pm cd doc : Value) (a : Addr) (vs : List Value) (ns : List Int),
      Ground q loose [] XP w aH mg mb s₁.heap -> YP w s₁.heap →
      s₁.heap.get? fa = some o -> o.data = .func (docDef d.name d.params d.body d.scope pm cd doc) -> s₁.heap.CodeRec cd d.name -> mg d.name = some (.ref fa) →
      s₁.heap.get? a = some { cls := .type "list", data := .seq vs.toArray } -> IntsAre vs ns -> ns.length <= n -> s₁.gens = #[] →
      codeAny (model l.prog w) callerA (.call (.ref fa) ⟨[.ref a], []⟩) (fun r s' => r = .ok (.ret (.bool true)) /\ OldK s₁.heap s'.heap /\ s'.os = s₁.os /\ AllBare s'.gens) s₁) :
    WalkO q loose XP YP l.row.toRowW d [] (fun f vs => PySem.call f vs) := by
  intro w aH s₁ mg mb G Y fa o pm cd doc dV kV ho hd hcd hD hmg hg args vals as hpre hlay hrd hwl hlo
  obtain rfl : dV = .none := Dflts.none hD hdf
  obtain rfl : kV = .none := Dflts.noKw hD
  obtain ⟨a, vs, ns, rfl, rfl, hobj, hints, hlen⟩ := tW hn hpre hwl
  refine enter_call (codeAny_mono (call w aH s₁ mg mb fa o pm cd doc a vs ns G Y ho (fd_plain hd) hcd hmg hobj hints hlen hg) fun r s' hq => ?_)
  obtain ⟨rfl, h2, h3, h4⟩ := hq
  exact ⟨.inl ⟨.bool true, .bool true, [], rfl, fun _ => rfl, .bool true, tH l _, fun _ => ⟨List.Pairwise.nil, fun _ hm => (nomatch hm)⟩⟩, h2, h3, h4⟩
end Att
namespace L2
open PySem PySem.Spec PyProof.Rows
theorem ni : ∀ {vs : List Value} {ns : List Int}, IntsAre vs ns -> Vals (ns.map V.int) vs
  | _, _, .nil => .nil
  | _, _, .cons n t h => .cons ⟨t, rfl⟩ (ni h)
noncomputable def x8 (H : Hp) : Prop := ∀ b, H b = none \/ ∃ o xs, H b = some (.frz o (.lst xs))
theorem wQ {P : Program} {w : World} {K : PySem.W.Frag} {mg mb : Str -> Option Value} {CX : CXT} {k : Nat} {fa a : Addr} {fd : FuncData} {x : Str} {sp : Sp} {s₁ : Shared} {vs : List Value} {ns : List Int}
    (KX : K.In s₁.heap) (hns : s₁.heap.Ns mainGlobals mg) (hb : s₁.heap.Ns builtinsNs mb) (hbb : ∀ x : Str, x ≠ "__name__" -> mb x = bootBuiltins x) (hlim : s₁.heap.NoLimit) (hg : s₁.gens = #[])
    (ha : s₁.heap.get? a = some { cls := .type "list", data := .seq vs.toArray }) (hi : IntsAre vs ns) (hl : ns.length <= sizeLine) (hr : fu k callerA)
    (F : ∀ base : Heap, K.In base -> base.Ns mainGlobals mg -> fo P w K mg base CX k fa fd [x] sp) (hbind : ∀ (s : Shared) (u : Value), BindsTo s fd ⟨[u], []⟩ [(x, u)])
    (hsp : ∀ H : Hp, x8 H -> SqL K H a (ns.map V.int) -> sp [.ref a] H (fun v _ => v = .bl true) fun _ _ _ => False)
    (hCX : ∀ H e s', CX [] H s₁ (fun _ _ _ => False) e s' -> False) :
    codeAny (model P w) callerA (.call (.ref fa) ⟨[.ref a], []⟩) (fun r s' => r = .ok (.ret (.bool true)) /\ OldK s₁.heap s'.heap /\ s'.os = s₁.os /\ AllBare s'.gens) s₁ := by
  have rv := ni hi
  have lenV := hi.length
  -- from an abstract heap in which nothing but the script may be tracked
  have core : ∀ H : Hp, x8 H -> SqL K H a (ns.map V.int) -> HOk P w H s₁.heap -> (∀ b, H b ≠ none -> b = a) -> (H a ≠ none -> K.lookup a = none) →
      codeAny (model P w) callerA (.call (.ref fa) ⟨[.ref a], []⟩) (fun r s' => r = .ok (.ret (.bool true)) /\ OldK s₁.heap s'.heap /\ s'.os = s₁.os /\ AllBare s'.gens) s₁ := by
    intro H hO hS hok hA hK
    have base_of : ∀ {b : Addr} {o : Obj}, s₁.heap.get? b = some o -> H b = none -> (n_ s₁.heap H).get? b = some o := fun e n => vI e n
    have noA : ∀ {b : Addr} {o : Obj} {es : Array DictEntry} {ep : Nat}, s₁.heap.get? b = some o -> o.data = .dict es ep -> H b = none := fun {b o es ep} e d => by
      cases q : H b with
      | none => rfl
      | some u =>
        have e' : b = a := hA b (by rw [q]; simp)
        subst e'
        rw [ha] at e; cases e
        have d' : Data.seq vs.toArray _ = Data.dict es ep := d
        cases d'
    have nsK : ∀ {b : Addr} {m : Str -> Option Value}, s₁.heap.Ns b m -> (n_ s₁.heap H).Ns b m := fun {b m} ⟨o, es, ep, e, d, r⟩ => ⟨o, es, ep, base_of e (noA e d), d, r⟩
    have hKb : K.In (n_ s₁.heap H) := fun b o e => base_of (KX b o e) (by
      cases q : H b with
      | none => rfl
      | some u =>
        have e' : b = a := hA b (by rw [q]; simp)
        subst e'
        rw [hK (by rw [q]; simp)] at e; cases e)
    have hM : Mod K mg (n_ s₁.heap H) := ⟨hKb, nsK hns, ⟨mb, nsK hb, hbb⟩, let ⟨mc, h1, h2⟩ := hlim; ⟨mc, nsK h1, h2⟩⟩
    have e0 : yj P w K mg (n_ s₁.heap H) callerA [] s₁ H := ⟨rfl, hM, fun b o e => yU e, Nat.le_of_eq (uL _ _), trivial, fun b hb => absurd (show b ∈ ([] : List Addr) from hb) (by simp), hok, .of_eq hg⟩
    refine codeAny_mono ((F _ hKb (nsK hns)).run callerA [] s₁ H ⟨[.ref a], []⟩ [.ref a] [.ref a] _ _ hr e0 (hbind s₁ (.ref a)) (.cons rfl .nil) (hsp H hO hS)) fun r s' h => ?_
    cases r with
    | error e => exact (hCX H e s' h).elim
    | ok fl =>
      cases fl with
      | next => exact False.elim h
      | brk => exact False.elim h
      | cont => exact False.elim h
      | ret u =>
        obtain ⟨v, H', os, bare, un, hok', r', q⟩ := h
        have q' : v = .bl true := q
        subst q'
        obtain rfl : u = Value.bool true := r'
        refine ⟨rfl, OldK.of_keep fun b o e => ?_, os, bare⟩
        cases q : H b with
        | none => exact un.keep b o e q (by intro z; exact absurd (show b ∈ ([] : List Addr) from z) (by simp)) (by simp)
        | some u =>
          rcases hO b with z | ⟨ob, xs, z⟩
          · rw [q] at z; cases z
          · have z2 := un.mE b ob _ z
            obtain ⟨e1, _⟩ := hok b _ z
            obtain ⟨e2, _⟩ := hok' b _ z2
            rw [e] at e1; cases e1
            exact e2
  cases hk : K.lookup a with
  | some o =>
    -- the script is one of the module's own objects
    have e := KX a o hk
    rw [ha] at e
    cases e
    refine core (fun _ => none) (fun _ => .inl rfl) (.inr ⟨_, vs.toArray, _, hk, rfl, rfl, rfl, by rw [List.size_toArray, lenV]; exact hl, by simpa using rv⟩) (fun b u z => by have z' : (none : Option HO) = some u := z; cases z') (fun b z => absurd rfl z) fun z => absurd rfl z
  | none =>
    refine core (fun b => if b = a then some (.frz { cls := .type "list", data := .seq vs.toArray } (.lst (ns.map V.int))) else none) (fun b => ?_) (.inl (.inr ⟨{ cls := .type "list", data := .seq vs.toArray }, if_pos rfl⟩)) (fun b u z => ?_) (fun b z => ?_) fun _ => hk
    · by_cases hb : b = a
      · exact .inr ⟨_, _, if_pos hb⟩
      · exact .inl (if_neg hb)
    · by_cases hb : b = a
      · have z' := (if_pos hb).symm.trans z
        cases z'
        subst hb
        exact ⟨ha, by rw [List.length_map]; exact hl, vs, _, rv, ha⟩
      · have z' := (if_neg hb).symm.trans z
        cases z'
    · by_cases hb : b = a
      · exact hb
      · exact absurd (if_neg hb) z
noncomputable abbrev KOf {K : PySem.W.Frag} {h : Heap} (_ : K.In h) : PySem.W.Frag := K
theorem zj {l : PySem.W.OpenLaw} {n k : Nat} {q : Program} {loose : List Str} {XP : (Str -> Option Value) -> Heap -> Prop} {YP : World -> Heap -> Prop} {d : DefRec} {K : Params -> PySem.W.Frag} {CX : World -> CXT} {sp : World -> Sp} {x : Str}
    (hn : l.most = some n) (hn2 : n <= sizeLine) (hdf : d.params.defaults = []) (hr : fu k callerA)
    (hY : ∀ (w : World) (h : Heap), YP w h -> (K w.params).In h)
    (F : ∀ (w : World) (mg : Str -> Option Value) (fa : Addr) (h : Heap), (K w.params).In h -> h.Ns mainGlobals mg -> mg d.name = some (.ref fa) →
      ∃ fd : FuncData, (∀ (s : Shared) (u : Value), BindsTo s fd ⟨[u], []⟩ [(x, u)]) ∧
        ∀ base : Heap, (K w.params).In base -> base.Ns mainGlobals mg -> fo l.prog w (K w.params) mg base (CX w) k fa fd [x] (sp w))
    (hsp : ∀ (w : World) (H : Hp) (a : Addr) (ns : List Int), ns.length <= n -> x8 H -> SqL (K w.params) H a (ns.map V.int) -> sp w [.ref a] H (fun v _ => v = .bl true) fun _ _ _ => False)
    (hCX : ∀ (w : World) (H : Hp) (s : Shared) (e : Value) (s' : Shared), CX w [] H s (fun _ _ _ => False) e s' -> False) :
    PySem.W.WalkO q loose XP YP l.row.toRowW d [] (fun f vs => PySem.call f vs) := by
  refine Att.qp hn hdf fun w aH s₁ mg mb fa o pm cd doc a vs ns G Y ho hd hcd hmg hobj hints hlen hg => ?_
  have KX := hY w _ Y
  obtain ⟨fd, hb, hF⟩ := F w mg fa _ KX G.T.g hmg
  exact wQ KX G.T.g G.T.b G.T.builtins G.T.nolimit hg hobj hints (Nat.le_trans hlen hn2) hr hF hb (fun H hO hS => hsp w H a ns hlen hO hS) fun H e s' => hCX w H s₁ e s'
end L2
/- THE LAST THEOREM (shape; LID, My.* are yours):
   My.Adr: a structure of the addresses that your layer names (classes, functions); My.Txt K t: a structure (Prop) of the equations over K;
   My.txt_mk : {K} {implicit addresses ..} (e1 : nsIn K mainGlobals "law" = some (some (.ref f))) (e2 : K.lookup f = some ⟨oc, od, .func (fnOf "law" "law" params body scope dV kV doc pm an cdv ct), sl⟩) (e3 : codeIn K cdv "law" = true) .. : ∃ t, My.Txt K t
(the tactic k_is has no namespace: write k_is) -/
namespace L2
open PySem PySem.Spec PyProof.Rows
noncomputable def jm (s : Stmt) : Arguments := match s with
  | .FunctionDef _ a _ _ _ _ _ _ _ _ => a
  | _ => { posonlyargs := [], args := [], vararg := none, kwonlyargs := [], kw_defaults := [], kwarg := none, defaults := [] }
noncomputable def fS (s : Stmt) : List Stmt := match s with
  | .FunctionDef _ _ b _ _ _ _ _ _ _ => b
  | _ => []
noncomputable def au (s : Stmt) : Scope := match s with
  | .FunctionDef _ _ _ _ _ _ sc _ _ _ => sc
  | _ => { kind := .function, names := [], isGenerator := false, isCoroutine := false }
noncomputable abbrev CX0 : CXT := fun _ _ _ _ _ _ => False
noncomputable abbrev E0 : XK := fun _ _ _ => False
theorem BM {X : Cx} : Passes CX0 X E0 := fun _ _ _ _ _ _ _ h => h.elim
structure Fun (K : PySem.W.Frag) (x qual : Str) (st : Stmt) (f : Addr) (fd : FuncData) : Prop where
  ex : ∃ (oc : Value) (od : Option Addr) (kV doc pm : Value) (an : Option Addr) (cdv ct : Value) (osl : Array (Option Value)),
    fd = PySem.W.fnOf x qual (jm st) (fS st) (au st) .none kV doc pm an cdv ct /\ K.lookup f = some ⟨oc, od, .func fd, osl⟩ /\ PySem.W.codeIn K cdv qual = true
  kp : PySem.W.keepIn K (.ref f) = true
section
variable {P : Program} {w : World} {K : PySem.W.Frag} {mg : Str -> Option Value} {base : Heap}
theorem Fun.ok {x qual : Str} {st : Stmt} {f : Addr} {fd : FuncData} {N ps : List Str} {k : Nat} {sp : Sp} (F : Fun K x qual st f fd) (S : aL N ps (au st)) (len : ∀ vs H Q E, sp vs H Q E -> vs.length = ps.length)
    (hbody : ∀ (cdv : Value) (A : Around) (outer : List Env) (s : Shared) (H : Hp) (vs : List V) (Q : VK) (E : XK), fu k (A.deeper (envOfC qual (au st) s.heap.objs.size f cdv)) -> sp vs H Q E →
      ∃ t, PSs (rF CX0 P w K mg base N qual (au st) f cdv A outer s H E).nox (fS st) t /\ t { nx := fun _ H' => Q .non H', rt := Q } (start N vs) H) : fo P w K mg base CX0 (k + 1) f fd ps sp := by
  obtain ⟨oc, od, kV, doc, pm, an, cdv, ct, osl, rfl, lk, hcd⟩ := F.ex
  refine B7 lk hcd S len fun A outer s H vs Q E hr hsp => ?_
  obtain ⟨t, h, q⟩ := hbody cdv A outer s H vs Q E hr hsp
  exact ⟨t, h.nox, q⟩
theorem Fun.binds {x qual : Str} {st : Stmt} {f : Addr} {fd : FuncData} {ps : List Str} (F : Fun K x qual st f fd)
    (h : ∀ (kV doc pm : Value) (an : Option Addr) (cdv ct : Value) (us : List Value), us.length = ps.length -> bindArgs (PySem.W.fnOf x qual (jm st) (fS st) (au st) .none kV doc pm an cdv ct) ⟨us, []⟩ = pure (ps.zip us)) : Binds K fd ps [] := by
  obtain ⟨oc, od, kV, doc, pm, an, cdv, ct, osl, rfl, lk, hcd⟩ := F.ex
  exact .all (h kV doc pm an cdv ct)
theorem zY {x qual : Str} {st : Stmt} {f : Addr} {oc : Value} {od an : Option Addr} {osl : Array (Option Value)} {kV doc pm cdv ct : Value} (l : K.lookup f = some ⟨oc, od, .func (PySem.W.fnOf x qual (jm st) (fS st) (au st) .none kV doc pm an cdv ct), osl⟩)
    (c : PySem.W.codeIn K cdv qual = true) (k : PySem.W.keepIn K (.ref f) = true) : Fun K x qual st f (PySem.W.fnOf x qual (jm st) (fS st) (au st) .none kV doc pm an cdv ct) := ⟨⟨oc, od, kV, doc, pm, an, cdv, ct, osl, rfl, l, c⟩, k⟩
end
noncomputable def PTs (X : Cx) (ifs : List Expr) (t : TT) : Prop :=
  ∀ (pins : List (Addr × Obj)) (s : Shared) (σ : St) (H : Hp) (Q : Bool -> Hp -> Prop), Inv X pins σ H s -> t σ H Q →
    wpAny (model X.prog X.w) X.A (forIn ifs true fun c r => if r = true then do let ok ← isTrue c X.env (eval c X.env); pure (ForInStep.yield ok) else pure (ForInStep.yield r)) (TP X pins σ Q) X.xe s
noncomputable def Ck : TT := fun _ H Q => Q true H
theorem x9 {X : Cx} : PTs X [] Ck := fun _ _ _ H _ I h => wpAny_tests_nil ⟨H, I, h⟩
theorem yz {X : Cx} {c : Expr} {t : TT} (h : PT X c t) : PTs X [c] t := fun pins s σ H Q I q => wpAny_tests_one (h pins s σ H Q I q)
theorem p_ {prog : Program} {w : World} {A : Around} {R : Result -> Shared -> Prop} {s : Shared} {elt target iter : Expr} {ifs : List Expr} {scope : Scope} {pos : Pos} {it acc : Value} {env : Env} (I : Nat -> Shared -> Prop)
    (turn : ∀ n s, I n s -> wpAny (model prog w) A (pyNext it) (fun r s₁ => match r with
      | none => R (.ok .next) s₁
      | some v => wpAny (model prog w) A (letOwnedTupleGo target it v) (fun _ s₁ => wpAny (model prog w) A (assign target env v) (fun _ s₂ =>
          wpAny (model prog w) A (forIn ifs true fun c r => if r = true then do let ok ← isTrue c env (eval c env); pure (ForInStep.yield ok) else pure (ForInStep.yield r)) (fun ok s₃ =>
            if ok = true then wpAny (model prog w) A (eval elt env) (fun x s₄ =>
              wpAny (model prog w) A (call (.builtin "list.append") [acc, x]) (fun _ s₅ => ∃ m, m < n /\ I m s₅) (fun _ _ => False) s₄) (fun _ _ => False) s₃
            else ∃ m, m < n /\ I m s₃) (fun _ _ => False) s₂) (fun _ _ => False) s₁) (fun _ _ => False) s₁) (fun _ _ => False) s)
    (n : Nat) (h : I n s) :
    codeAny (model prog w) A (.compLoop (.ListComp elt [⟨target, iter, ifs, 0⟩] scope pos) 0 it acc env) R s := by
  refine codeAny_loop rfl I (fun n s hI => ?_) n h
  show wpAny _ A ((compTurn (.ListComp elt [⟨target, iter, ifs, 0⟩] scope pos) 0 it acc env).onRaise (fun x => do noteFrame x env; theTreesLotGoes x)) _ _ s
  refine wpAny_noted ?_
  rw [compTurn_list]
  refine wpAny_noRaise ?_
  refine wpAny_bind (wpAny_standAt (wpAny_bind (wpAny_mono (turn n s hI) (fun r s₁ h₁ => ?_) fun _ _ h' => h')))
  cases r with
  | none => exact wpAny_pure h₁
  | some v =>
    refine wpAny_bind (wpAny_mono h₁ (fun _ s₁' h₁' => ?_) fun _ _ h' => h')
    refine wpAny_bind (wpAny_mono h₁' (fun _ s₂ h₂ => wpAny_bind (wpAny_mono h₂ (fun ok s₃ h₃ => ?_) fun _ _ h' => h')) fun _ _ h' => h')
    cases ok with
    | false => exact wpAny_pure ⟨rfl, h₃⟩
    | true =>
      exact wpAny_bind (wpAny_bind (wpAny_mono h₃ (fun x s₄ h₄ => wpAny_bind (wpAny_mono h₄ (fun _ s₅ h₅ => wpAny_pure (wpAny_pure ⟨rfl, h₅⟩)) fun _ _ h' => h')) fun _ _ h' => h'))
noncomputable def bV (X : Cx) (scope : Scope) (cl : List (Str × Addr)) (C : Addr) (aH : Shared) (aQ : Hp) (fp : List Addr) (N' : List Str) : Cx :=
  { X with N := N', aH := aH, aQ := aQ, env := compEnvC scope cl C X.env, outer := X.stack, ex := fp, fn := fun _ => false, pn := [] }
theorem iY {env : Env} : ∀ (names : List (Str × NameKind)) (cs : List (Str × Addr)), (∀ y ∈ names, y.2 = .free -> ∃ a, env.cells.lookup y.1 = some a) -> (∀ x c, cs.lookup x = some c -> env.cells.lookup x = some c) →
    ∃ cl : List (Str × Addr), (forIn names cs fun (y : Str × NameKind) (r : List (Str × Addr)) => if (y.2 == NameKind.free) = true then do let a ← cellOf env y.1; pure (ForInStep.yield ((y.1, a) :: r)) else pure (ForInStep.yield r) : Sem (List (Str × Addr))) = pure cl ∧
      (∀ x c, cl.lookup x = some c -> env.cells.lookup x = some c) /\ (∀ x, ((x, NameKind.free) ∈ names \/ ∃ c, cs.lookup x = some c) -> ∃ c, cl.lookup x = some c)
  | [], cs, _, h => ⟨cs, rfl, h, fun x hx => by
      rcases hx with z | z
      · cases z
      · exact z⟩
  | (n, k) :: r, cs, hf, h => by
    by_cases hk : k = .free
    · subst hk
      obtain ⟨a, ha⟩ := hf (n, .free) (by simp) rfl
      obtain ⟨cl, e, h1, h2⟩ := iY r ((n, a) :: cs) (fun y hy => hf y (List.mem_cons_of_mem _ hy)) (fun x c q => by
        rw [List.lookup_cons] at q
        cases hx : x == n with
        | true =>
          rw [hx] at q
          have : x = n := by simpa using hx
          subst this
          cases q; exact ha
        | false => rw [hx] at q; exact h x c q)
      refine ⟨cl, ?_, h1, fun x hx => ?_⟩
      · rw [List.forIn_cons]
        have e0 : cellOf env n = pure a := by unfold cellOf; rw [ha]
        simp only [beq_self_eq_true, if_true, e0]
        exact e
      · have hc : ∀ z c, cs.lookup z = some c -> ∃ c, ((n, a) :: cs).lookup z = some c := fun z c q => by
          rw [List.lookup_cons]
          cases z == n with
          | true => exact ⟨a, rfl⟩
          | false => exact ⟨c, q⟩
        rcases hx with z | ⟨c, z⟩
        · rcases List.mem_cons.mp z with q | q
          · cases q
            exact h2 n (.inr ⟨a, by simp [List.lookup_cons]⟩)
          · exact h2 x (.inl q)
        · exact h2 x (.inr (hc x c z))
    · obtain ⟨cl, e, h1, h2⟩ := iY r cs (fun y hy => hf y (List.mem_cons_of_mem _ hy)) h
      have hb : (k == NameKind.free) = false := by simpa using hk
      refine ⟨cl, ?_, h1, fun x hx => ?_⟩
      · rw [List.forIn_cons]
        simp only [hb, Bool.false_eq_true, if_false]
        exact e
      · rcases hx with z | z
        · rcases List.mem_cons.mp z with q | q
          · cases q; exact absurd rfl hk
          · exact h2 x (.inl q)
        · exact h2 x (.inr z)
theorem mP {env : Env} {scope : Scope} (h : ∀ y ∈ scope.names, y.2 = .free -> ∃ a, env.cells.lookup y.1 = some a) :
    ∃ cl : List (Str × Addr), closureFor scope env = pure cl /\ (∀ x c, cl.lookup x = some c -> env.cells.lookup x = some c) /\ (∀ x, (x, NameKind.free) ∈ scope.names -> ∃ c, cl.lookup x = some c) := by
  obtain ⟨cl, e, h1, h2⟩ := iY (env := env) scope.names [] h (fun x c q => by cases q)
  refine ⟨cl, ?_, h1, fun x hx => h2 x (.inl hx)⟩
  exact Eq.trans (congrArg (fun t : Sem (List (Str × Addr)) => t >>= fun cs => pure cs) e) rfl
theorem lookup_mem {x : Str} {k : NameKind} : ∀ {names : List (Str × NameKind)}, names.lookup x = some k -> (x, k) ∈ names
  | [], h => by cases h
  | (n, j) :: r, h => by
    rw [List.lookup_cons] at h
    cases hx : x == n with
    | true =>
      rw [hx] at h
      have : x = n := by simpa using hx
      subst this
      cases h; simp
    | false => rw [hx] at h; exact List.mem_cons_of_mem _ (lookup_mem h)
theorem dH {env : Env} (hf : env.scope.kind = .function) : ∀ {names : List (Str × NameKind)} {x : Str}, names.lookup x = some .free -> env.kindOf x = some .cell →
    (names.map fun (n, k) => if (k == NameKind.free && env.scope.kind == .function && env.kindOf n == some .cell) then (n, NameKind.cell) else (n, k)).lookup x = some .cell
  | [], _, h, _ => by cases h
  | (n, k) :: r, x, h, hc => by
    have ih := @dH env hf r x
    show List.lookup x ((if (k == NameKind.free && env.scope.kind == .function && env.kindOf n == some .cell) = true then (n, NameKind.cell) else (n, k)) :: _) = _
    cases hx : x == n with
    | true =>
      have : x = n := by simpa using hx
      subst this
      simp only [List.lookup_cons, hx] at h
      cases h
      rw [if_pos (by simp [hf, hc])]
      simp [List.lookup_cons]
    | false =>
      simp only [List.lookup_cons, hx] at h
      by_cases hq : (k == NameKind.free && env.scope.kind == .function && env.kindOf n == some .cell) = true
      · rw [if_pos hq]; simp only [List.lookup_cons, hx]; exact ih h hc
      · rw [if_neg hq]; simp only [List.lookup_cons, hx]; exact ih h hc
theorem fF {env : Env} : ∀ {names : List (Str × NameKind)} {x : Str} {k : NameKind}, (names.map fun (n, k) => if (k == NameKind.free && env.scope.kind == .function && env.kindOf n == some .cell) then (n, NameKind.cell) else (n, k)).lookup x = some k →
    names.lookup x = some k \/ (names.lookup x = some .free /\ k = .cell)
  | [], _, _, h => by cases h
  | (n, j) :: r, x, k, h => by
    have ih := @fF env r x k
    have h' : List.lookup x ((if (j == NameKind.free && env.scope.kind == .function && env.kindOf n == some .cell) = true then (n, NameKind.cell) else (n, j)) :: (r.map fun (n, k) => if (k == NameKind.free && env.scope.kind == .function && env.kindOf n == some .cell) then (n, NameKind.cell) else (n, k))) = some k := h
    by_cases hq : (j == NameKind.free && env.scope.kind == .function && env.kindOf n == some .cell) = true
    · rw [if_pos hq] at h'
      have hj : j = .free := by
        have := Bool.and_eq_true_iff.mp (Bool.and_eq_true_iff.mp hq).1
        simpa using this.1
      simp only [List.lookup_cons] at h' ⊢
      cases hx : x == n with
      | true => rw [hx] at h'; cases h'; exact .inr ⟨by rw [hj], rfl⟩
      | false => rw [hx] at h'; exact ih h'
    · rw [if_neg hq] at h'
      simp only [List.lookup_cons] at h' ⊢
      cases hx : x == n with
      | true => rw [hx] at h'; cases h'; exact .inl rfl
      | false => rw [hx] at h'; exact ih h'
noncomputable def lR (ix : List Nat) (σ : St) : St := none :: ix.map fun i => (σ[i]?).join
noncomputable abbrev CN (J : It) (tt : TT) (te : TE) (σ' : V -> St) (acc : Addr) (H1 : Hp) (Q : VK) : Prop :=
  ∃ W : Nat -> Nat -> List V -> Hp -> Prop, (∃ m, W 0 m [] (upd H1 acc (.lst []))) /\ ∀ i m ys H, W i m ys H →
    (J.stop i H /\ Q (.ref acc) H) \/ (J.go i H /\ ∀ x H', J.yld i H x H' -> tt (σ' x) H' fun b H2 => if b = true then te (σ' x) H2 fun y H3 =>
        H3 acc = some (.lst ys) /\ ys.length < sizeLine /\ ∃ m', m' < m /\ W (i + 1) m' (ys ++ [y]) (upd H3 acc (.lst (ys ++ [y])))
      else ∃ m', m' < m /\ W (i + 1) m' ys H2)
noncomputable def zB (wi : TI) (ix : List Nat) (tt : TT) (te : TE) : TE := fun σ H Q => wi σ H fun J H1 => ∀ acc, H1 acc = none -> CN J tt te (fun x => (lR ix σ).set 0 (some x)) acc H1 Q
theorem HOk.sameBut {P : Program} {w : World} {H : Hp} {h h' : Heap} {C : Addr} (x : HOk P w H h) (hn : H C = none) (k : ∀ b u, b ≠ C -> h.get? b = some u -> h'.get? b = some u) : HOk P w H h' := fun b u e => by
  have nC : ∀ b u, H b = some u -> b ≠ C := fun b u e z => by rw [z, hn] at e; cases e
  refine (x b u e).mw (fun c v hc q => k c v ?_ q) (fun _ q => q) fun _ _ q => q
  rcases hc with z | z
  · rw [z]; exact nC b u e
  · exact nC c _ z
theorem qI : isSubtype (.type "tuple") (.type "set") = pure false := by rw [isSubtype_type]; kernel_rfl
theorem og : isSubtype (.type "tuple") (.type "frozenset") = pure false := by rw [isSubtype_type]; kernel_rfl
noncomputable abbrev dN (led : Bool) : Obj := { cls := .type "set", dict := none, data := .set #[] 0 (.fresh 0 0 led) }
set_option maxHeartbeats 3200000 in
theorem set_tuple {prog : Program} {w : World} {B : Around} {Er : Value -> Shared -> Prop} {z : Shared} {a : Addr} {its : Array Value} {zs : List Int} {Q : Value -> Shared -> Prop}
    (hh : B.handled = none) (ht : z.heap.IsTuple a its) (hi : IntsAre its.toList zs) (hb : its.size + 1 < scanBound)
    (fin : ∀ (g' : Heap) (tk : Nat), g'.SetOf (intKind prog w) z.heap.objs.size (fun k' => (firstMet (fun i => zs.getD i 0) its.size).any (· == k')) (firstMet (fun i => zs.getD i 0) its.size).length →
      (∀ b o, b < z.heap.objs.size -> z.heap.get? b = some o -> g'.get? b = some o) -> Q (.ref z.heap.objs.size) { z with heap := g', toks := tk }) :
    wpAny (model prog w) B (call (.type "set") [.ref a]) Q Er z := by
  obtain ⟨_, _, _⟩ := F.called_set.mro
  have := F.called_set.made
  have := F.called_set.sub
  refine wpAny_call (codeAny_of_tree ?_)
  show wpAny _ _ (callAny (.type "set") _) _ _ _
  refine wpAny_pure ⟨Code.quiet_builtin _ (by decide +kernel), codeAny_builtin F.entry_type_call ?_⟩
  rw [Around.under_plain (weight_type_call_type "set" [.ref a] []) rfl]
  have := F.called_set.notType
  have := F.called_set.canCreate
  have := F.typeCall_set_1 (.ref a)
  repeat (any_goals (first | assumption | wp_step))
  refine codeAny_mono (code_set_new_1 (.ref a) (E := Er) (Q₁ := fun v y => ∃ led : Bool, v = .ref z.heap.objs.size /\ y = { z with heap := z.heap.push (dN led) }) fun led => ⟨led, rfl, rfl⟩) fun r y hr => ?_
  cases r with
  | error e => exact hr
  | ok fl =>
    cases fl with
    | ret v =>
      obtain ⟨led, rfl, rfl⟩ := hr
      have hS : (z.heap.push (dN led)).get? z.heap.objs.size = some (dN led) := Heap.get?_push_size _ rfl
      have hT : Shared.TypeIs { z with heap := z.heap.push (dN led) } (.ref z.heap.objs.size) "set" := ⟨_, hS, rfl⟩
      have := F.called_set.init.lookup
      have := F.called_set.init.bind (.ref z.heap.objs.size)
      repeat (any_goals (first | assumption | wp_step))
      refine codeAny_mono (codeAny_call_builtin (R := wants (fun r y => r = .none /\ ∃ g' tk, y = { z with heap := g', toks := tk } ∧
          g'.SetOf (intKind prog w) z.heap.objs.size (fun k' => (firstMet (fun i => zs.getD i 0) its.size).any (· == k')) (firstMet (fun i => zs.getD i 0) its.size).length ∧
          (∀ b o, b < z.heap.objs.size -> z.heap.get? b = some o -> g'.get? b = some o)) Er) F.called_set.init.plain F.entry_set_init (check_set_init_1 hT ?_)) fun r₂ y₂ hr₂ => ?_
      · obtain ⟨ol, hol, hcl, nl, hdl⟩ := id ht
        obtain ⟨oc, od, oda, osl⟩ := ol
        simp only at hcl hdl
        subst hcl; subst hdl
        have hol' : (z.heap.push (dN led)).get? a = some { cls := .type "tuple", dict := od, data := .seq its nl, slots := osl } := Heap.get?_push_of_some _ hol
        have := qI
        have := og
        have : (Value.type "tuple" == Value.type "dict") = false := by decide
        have ht1 : (z.heap.push (dN led)).IsTuple a its := ⟨_, hol', rfl, nl, rfl⟩
        unfold Builtin.«set.__init__» noKeywords Builtin.Frozenset.updateFrom
        generalize hPI : pyIter = PI
        wp_walk
        subst hPI
        refine wpAny_pyIter_tuple ht1 ?_
        refine wpAny_bind (wpAny_runValue ?_)
        have hlS : a < z.heap.objs.size := Heap.lt_size hol
        have hneI : a ≠ (z.heap.push (dN led)).objs.size := by
          rw [Heap.size_push]; exact Nat.ne_of_lt (Nat.lt_succ_of_lt hlS)
        have hSf : z.heap.objs.size ∉ [(z.heap.push (dN led)).objs.size, a] := by
          rw [Heap.size_push]; simp only [List.mem_cons, List.mem_singleton, List.not_mem_nil, or_false, not_or]
          exact ⟨Nat.ne_of_lt (Nat.lt_succ_self _), Nat.ne_of_gt hlS⟩
        have hval : ∀ (i : Nat) (v : Value), its[i]? = some v -> ∃ t, v = .int ((fun i => zs.getD i 0) i) t := fun i v hv => IntsAre.int_at hi i v (by rw [Array.getElem?_toList]; exact hv)
        refine codeAny_set_update_loopS ((Walks.tuple (by simp [hh]) _ a hneI its).toS) z.heap.objs.size
          hSf (fun i => zs.getD i 0) hval hb (its.size - 0) 0 _ (by omega) (Nat.zero_le _)
          ⟨⟨_, Heap.get?_push_size _ rfl, rfl, rfl⟩, ?hP⟩ ?hS0 ?hR
        case hP => exact ⟨_, Heap.get?_push_of_some _ hol', rfl, nl, rfl⟩
        case hS0 =>
          exact SetOf_congr ((setObjOf_fresh (knd := intKind prog w) led).setOf (Heap.get?_push_of_some _ hS) (by unfold scanBound; omega)) (fun _ => rfl) rfl
        case hR =>
          intro s' hm hS'
          obtain ⟨h', g', d', tk', os'⟩ := s'
          obtain rfl : g' = z.gens := hm.gens
          obtain rfl : d' = z.drawn := hm.drawn
          obtain rfl : os' = z.os := hm.os
          show wpAny _ _ _ _ _ _
          refine wpAny_pure ?_
          show wpAny _ _ (ret Value.none) _ _ _
          refine wpAny_pure ⟨rfl, h', tk', rfl, hS', fun b o hb e => ?_⟩
          refine hm.heap b o ?_ (Heap.get?_push_of_some _ (Heap.get?_push_of_some _ e))
          simp only [List.mem_cons, List.mem_singleton, List.not_mem_nil, or_false, not_or]
          refine ⟨Nat.ne_of_lt hb, ?_⟩
          show b ≠ (z.heap.push (dN led)).objs.size
          rw [Heap.size_push]; exact Nat.ne_of_lt (Nat.lt_succ_of_lt hb)
      · cases r₂ with
        | error e => exact hr₂
        | ok fl₂ =>
          cases fl₂ with
          | ret r =>
            obtain ⟨rfl, g', tk, rfl, hS', hk'⟩ := hr₂
            repeat (any_goals (first | assumption | wp_step))
            exact fin _ _ hS' hk'
          | _ => exact hr₂.elim
    | _ => exact hr.elim
section
variable {X : Cx}
theorem qg : bu X (.builtin "isinstance") (fun vs H Q => ∃ x t n b, vs = [x, .ty n] /\ iU X.K H x t /\ PySem.W.kitOne X.K t (.type n) = some b /\ Q (.bl b) H) := by
  intro pins s σ H xs us Q I r h
  obtain ⟨x, t, n, b, rfl, ty, e, q⟩ := h
  obtain ⟨u, w', rfl, r1, r2⟩ := vals2 r
  cases r2
  exact tZ I r1 ty e fun tk => ⟨.bl b, H, I.tok tk, rfl, q⟩
noncomputable def unl (ns : List Int) : List Int := firstMet (fun i => ns.getD i 0) ns.length
theorem oG (hc : X.calm = true) : bu X (.type "set") (fun vs H Q => ∃ p ns, vs = [.ref p] /\ SqT X.K H p (ns.map V.int) /\ ns.length + 1 < scanBound /\ ∀ l, H l = none -> Q (.ref l) (upd H l (.set (fun k => (unl ns).any (· == k)) (unl ns).length))) := by
  intro pins s σ H xs us Q I r h
  obtain ⟨p, ns, rfl, hq, hb, q⟩ := h
  obtain ⟨u, rfl, rx⟩ := vals1 r
  cases rx
  obtain ⟨its, r', pl, hz⟩ := I.tuple hq
  have hlen := r'.length
  rw [List.length_map] at hlen
  have e0 : its.toArray.size = ns.length := by rw [List.size_toArray, hlen]
  refine set_tuple (I.ok.hd hc) (show s.heap.IsTuple p its.toArray from pl) (zs := ns) (by simpa using intsAre_of r') (by rw [e0]; exact hb) fun g' tk hS hk => ?_
  rw [e0] at hS
  exact ⟨.ref s.heap.objs.size, _, I.laid (t' := tk) (fun b o e => hk b o (Heap.lt_size e) e) (Nat.le_refl _) (show bc X.prog X.w _ g' _ (.set _ _) from hS), rfl, q _ (I.hok.fresh (Nat.le_refl _))⟩
theorem mI : bu X (.builtin "len") (fun vs H Q => ∃ p S n, vs = [.ref p] /\ H p = some (.set S n) /\ Q (.int n) H) := by
  intro pins s σ H xs us Q I r h
  obtain ⟨p, S, n, rfl, hH, q⟩ := h
  obtain ⟨u, rfl, rx⟩ := vals1 r
  cases rx
  obtain ⟨o, es, ep, tb, ho, hex, hd, hel, hmem, hsz, hfit, rfl⟩ := (show s.heap.SetOf (intKind X.prog X.w) p S n from I.hok p _ hH)
  have hb : (es.size : Int) < 2 ^ 63 := by unfold scanBound at hsz; omega
  exact PySem.call_len_set ho hex hd hfit hb ⟨.int es.size, H, I.tok _, ⟨_, rfl⟩, q⟩
theorem h8 {prog : Program} {w : World} {A : Around} {E : Value -> Shared -> Prop} {s : Shared} {t sl : Addr} {items : Array Value} {vl vu : Value} {lo hi : Option Int} {Q : Value -> Shared -> Prop} (ht : IsTup s.heap t items) (hs : s.heap.IsSliceOf sl vl vu .none) (pl : IsPart vl lo) (pu : IsPart vu hi)
    (h1 : HT.sIx items.size 0 lo = 0) (h2 : HT.sIx items.size items.size hi = items.size) (h : Q (.ref t) s) : wpAny (model prog w) A (getItem (.ref t) (.ref sl)) Q E s := by
  obtain ⟨os, hos, hcs, hds⟩ := id hs
  have hTs : s.TypeIs (.ref sl) "slice" := ⟨os, hos, hcs⟩
  unfold getItem
  try with_reducible refine wpAny_holding ?_
  first | refine wpAny_bind (wpAny_pure ?_) | skip
  refine wpAny_bind (wpAny_sequenceKey ht.typeIs (by decide) ?_)
  refine wpAny_bind (wpAny_callSpecial?_slot (name := Str.ofString "__getitem__") ht.typeIs PyProof.Rows.slot_tuple_getitem (wpAny_call_entry PyProof.Rows.slot_tuple_getitem ht.typeIs entry_tuple_getitem ?_ (args_tuple_getitem _ _)))
  show wpAny _ _ (Builtin.Tuple.tupleItemsOf (.ref t) >>= _) _ _ s
  refine wpAny_bind (tupleItemsOf_ ht (wpAny_bind (wpAny_typeOf hTs ?_)))
  rw [if_pos (by decide)]
  refine wpAny_bind (HT.fC hs pl pu ?_)
  rw [h1, h2]
  show wpAny _ _ (if (((0 : Nat) : Int) == 0 && (1 : Int) == 1 && (items.size - 0) == items.size) = true then _ else _) _ _ s
  rw [if_pos (by simp)]
  show wpAny _ _ (Builtin.Tuple.tupleIsExact (.ref t) >>= _) _ _ s
  unfold Builtin.Tuple.tupleIsExact
  refine wpAny_bind (wpAny_bind (wpAny_typeOf ht.typeIs (wpAny_pure ?_)))
  show wpAny _ _ (if (Value.type "tuple" == Value.type "tuple") = true then _ else _) _ _ s
  rw [if_pos (by decide)]
  refine wpAny_bind (wpAny_rule ?_)
  first
    | exact wpAny_pure ⟨_, rfl, wpAny_pure h⟩
    | exact wpAny_bind (wpAny_pure (wpAny_pure ⟨_, rfl, wpAny_pure h⟩))
noncomputable def Cf (K : PySem.W.Frag) : V -> Option Int -> Option Int -> Hp -> VK -> Prop := fun x lo hi H Q => ∃ a xs, x = .ref a /\ SqT K H a xs /\ HT.sIx xs.length 0 lo = 0 /\ HT.sIx xs.length xs.length hi = xs.length /\ Q (.ref a) H
theorem yS : SlR X (Cf X.K) := by
  intro pins s σ H x v vl vu lo hi sl Q I rx hs pl pu h
  obtain ⟨a, xs, rfl, hx, h1, h2, q⟩ := h
  cases rx
  obtain ⟨its, r, ht, hz⟩ := I.tuple hx
  have hlen : its.toArray.size = xs.length := by rw [List.size_toArray]; exact r.length.symm
  refine ⟨"tuple", _, PyProof.Rows.slot_tuple_getitem.lookup, ht.typeIs, ?_⟩
  exact h8 ht hs pl pu (by rw [hlen]; exact h1) (by rw [hlen]; exact h2) ⟨.ref a, H, I, rfl, q⟩
theorem pW (xs : Array Value) : ((List.range xs.size).filterMap fun (k : Nat) => xs[((xs.size : Int) - 1 + (k : Int) * (-1)).toNat]?).toArray = xs.toList.reverse.toArray := by
  have e : ((List.range xs.size).filterMap fun (k : Nat) => xs[((xs.size : Int) - 1 + (k : Int) * (-1)).toNat]?) = ((List.range xs.size).map fun k => xs.size - 1 - k).filterMap (xs[·]?) := by
    rw [List.filterMap_map]
    have cg : ∀ (l : List Nat) (f g : Nat -> Option Value), (∀ k ∈ l, f k = g k) -> l.filterMap f = l.filterMap g := by
      intro l
      induction l with
      | nil => intro _ _ _; rfl
      | cons a r ih =>
        intro f g h
        rw [List.filterMap_cons, List.filterMap_cons, h a (by simp), ih f g fun k hk => h k (List.mem_cons_of_mem _ hk)]
    refine cg _ _ _ fun k hk => ?_
    have := List.mem_range.mp hk
    have e1 : ((xs.size : Int) - 1 + (k : Int) * (-1)).toNat = xs.size - 1 - k := by omega
    show xs[((xs.size : Int) - 1 + (k : Int) * (-1)).toNat]? = xs[xs.size - 1 - k]?
    rw [e1]
  rw [e, PySem.W.krv_range, List.filterMap_reverse, PySem.W.krv_all]
theorem jW {prog : Program} {w : World} {A : Around} {E : Value -> Shared -> Prop} {s : Shared} {sl : Addr} {u : Tok} {n : Nat} {Q : Int × Int × Nat -> Shared -> Prop} (hs : s.heap.IsSliceOf sl .none .none (.int (-1) u))
    (h : Q ((n : Int) - 1, -1, n) s) : wpAny (model prog w) A (Builtin.Slice.sliceApplied (.ref sl) (pure (n : Int))) Q E s := by
  obtain ⟨os, hos, hcs, hds⟩ := id hs
  unfold Builtin.Slice.sliceApplied Builtin.Slice.sliceFields
  refine wpAny_bind (wpAny_bind (wpAny_field hos hds (x := .none) rfl (wpAny_bind (wpAny_field hos hds (x := .none) rfl (wpAny_bind (wpAny_field hos hds (x := .int (-1) u) rfl (wpAny_pure ?_)))))))
  refine wpAny_bind (slicePart_int ?_)
  show wpAny _ _ (if ((-1 : Int) == 0) = true then _ else _) _ _ s
  rw [if_neg (by decide)]
  refine wpAny_bind (slicePart_none (wpAny_bind (slicePart_none (wpAny_bind (wpAny_pure ?_)))))
  show wpAny _ _ (match Builtin.Slice.sliceAdjust none none (-1) (n : Int) with | (lo, hi) => pure (lo, (-1 : Int), Builtin.Slice.slicePlaces lo hi (-1))) _ _ s
  rw [show Builtin.Slice.sliceAdjust none none (-1) (n : Int) = ((n : Int) - 1, -1) from rfl]
  have hp : Builtin.Slice.slicePlaces ((n : Int) - 1) (-1) (-1) = n := by
    unfold Builtin.Slice.slicePlaces
    rw [if_neg (by decide)]
    by_cases hz : (n : Int) - 1 > -1
    · rw [if_pos hz, show (- -1 : Int) = 1 by decide, Int.ediv_one]; omega
    · rw [if_neg hz]; omega
  show wpAny _ _ (pure ((n : Int) - 1, (-1 : Int), Builtin.Slice.slicePlaces ((n : Int) - 1) (-1) (-1))) _ _ s
  rw [hp]
  exact wpAny_pure h
theorem jx {prog : Program} {w : World} {A : Around} {E : Value -> Shared -> Prop} {s : Shared} {t sl : Addr} {items : Array Value} {u : Tok} {Q : Value -> Shared -> Prop} (ht : IsTup s.heap t items) (hs : s.heap.IsSliceOf sl .none .none (.int (-1) u))
    (h : Q (.ref s.heap.objs.size) { s with heap := s.heap.push { cls := .type "tuple", data := .seq items.toList.reverse.toArray } }) (hsz : items.size <= sizeLine) : wpAny (model prog w) A (getItem (.ref t) (.ref sl)) Q E s := by
  obtain ⟨os, hos, hcs, hds⟩ := id hs
  have hTs : s.TypeIs (.ref sl) "slice" := ⟨os, hos, hcs⟩
  unfold getItem
  try with_reducible refine wpAny_holding ?_
  first | refine wpAny_bind (wpAny_pure ?_) | skip
  refine wpAny_bind (wpAny_sequenceKey ht.typeIs (by decide) ?_)
  refine wpAny_bind (wpAny_callSpecial?_slot (name := Str.ofString "__getitem__") ht.typeIs PyProof.Rows.slot_tuple_getitem (wpAny_call_entry PyProof.Rows.slot_tuple_getitem ht.typeIs entry_tuple_getitem ?_ (args_tuple_getitem _ _)))
  show wpAny _ _ (Builtin.Tuple.tupleItemsOf (.ref t) >>= _) _ _ s
  refine wpAny_bind (tupleItemsOf_ ht (wpAny_bind (wpAny_typeOf hTs ?_)))
  rw [if_pos (by decide)]
  refine wpAny_bind (jW hs ?_)
  show wpAny _ _ (if (((items.size : Int) - 1) == 0 && (-1 : Int) == 1 && items.size == items.size) = true then _ else _) _ _ s
  rw [if_neg (by simp)]
  show wpAny _ _ (Builtin.Tuple.tupleExact ((List.range items.size).filterMap fun (k : Nat) => items[((items.size : Int) - 1 + (k : Int) * (-1)).toNat]?).toArray >>= _) _ _ s
  rw [pW]
  have hz : sizeOk (.seq items.toList.reverse.toArray) := by
    show items.toList.reverse.toArray.size <= sizeLine
    simpa using hsz
  first
    | exact wpAny_bind (m := Builtin.Tuple.tupleExact _) (wpAny_newObj_type (wpAny_pure ⟨_, rfl, wpAny_pure h⟩) hz)
    | exact wpAny_bind (m := Builtin.Tuple.tupleExact _) (wpAny_newObj_type (wpAny_bind (wpAny_pure (wpAny_pure ⟨_, rfl, wpAny_pure h⟩))) hz)
noncomputable def xw (K : PySem.W.Frag) : R2 := fun x y H Q => ∃ a b ys, x = .ref a /\ y = .ref b /\ SqT K H a [] /\ SqT K H b ys /\ Q (.ref b) H
theorem wM : OpR X (binaryOp .Add) (xw X.K) := by
  intro pins s σ H x y v u Q I rx ry h
  obtain ⟨a, b, ys, rfl, rfl, ha, hb, q⟩ := h
  cases rx
  cases ry
  obtain ⟨its, r1, p1, _⟩ := I.tuple ha
  obtain ⟨its2, r2, p2, _⟩ := I.tuple hb
  cases r1
  obtain ⟨⟨cls, dd, data, sl⟩, ho, hc, n, hd⟩ := id p1
  obtain ⟨⟨cls2, dd2, data2, sl2⟩, ho2, hc2, n2, hd2⟩ := id p2
  simp only at hc hd hc2 hd2
  subst hc hd hc2 hd2
  exact concat_meets ⟨_, ho, rfl⟩ ⟨_, ho2, rfl⟩ noFill_tuple_add seq_tuple_add PySem.F.slot_tuple_add PySem.F.entry_tuple_add (PySem.F.args_tuple_add_2 _ _)
    (tuple_addW0 a b _ _ n n2 dd dd2 sl sl2 (by simp)) ⟨ho, ho2, ⟨.ref b, H, I, rfl, q⟩⟩
end
open AutoSeq1 (wpAny_loadPart')
section
variable {X : Cx}
theorem Vals.get' {xs : List V} {us : List Value} {i : Nat} {u : Value} (r : Vals xs us) (h : us[i]? = some u) : ∃ x, xs[i]? = some x /\ RelV x u := by
  have hl := r.length
  have hi : i < xs.length := by rw [hl]; exact (List.getElem?_eq_some_iff.mp h).1
  obtain ⟨u', e1, e2⟩ := r.get (List.getElem?_eq_getElem hi)
  rw [h] at e1; cases e1
  exact ⟨_, List.getElem?_eq_getElem hi, e2⟩
end
theorem uo {ns : List Int} (h : ns.Nodup) : (unl ns).length = ns.length := by
  have key : ∀ (l acc : List Int), (acc ++ l).Nodup -> l.foldl step_dedup acc = acc ++ l := by
    intro l
    induction l with
    | nil => intro acc _; simp
    | cons a r ih =>
      intro acc hn
      have h1 : a ∉ acc := by
        have := List.nodup_append.mp hn
        exact fun hm => this.2.2 a hm a (by simp) rfl
      have e : step_dedup acc a = acc ++ [a] := by
        unfold step_dedup
        have : acc.any (· == a) = false := by
          rw [Bool.eq_false_iff]
          intro z
          obtain ⟨x, hx, e⟩ := List.any_eq_true.mp z
          have : x = a := by simpa using e
          exact h1 (this ▸ hx)
        simp [this]
      rw [List.foldl_cons, e, ih (acc ++ [a]) (by rw [List.append_assoc]; exact hn), List.append_assoc]
      rfl
  have e : (List.range ns.length).map (fun i => ns.getD i 0) = ns := by
    apply List.ext_getElem
    · simp
    · intro i h1 h2
      simp [List.getD_eq_getElem?_getD, List.getElem?_eq_getElem h2]
  unfold unl firstMet
  rw [e, key ns [] (by simpa using h)]
  rfl
theorem Inv.Dl {X : Cx} {pins : List (Addr × Obj)} {σ : St} {H : Hp} {s : Shared} {C : Addr} {o : Obj} {h' : Heap} (I : Inv X (pins ++ [(C, o)]) σ H s) (cC : ∀ x c, X.env.cells.lookup x = some c -> c ≠ C) (hC : X.aH.heap.objs.size <= C) (pC : ∀ p ∈ X.pn ++ pins, p.1 ≠ C) (hs : Heap.SameBut C s.heap h') : Inv X pins σ H { s with heap := h' } := by
  have kb : ∀ b u, b ≠ C -> s.heap.get? b = some u -> h'.get? b = some u := fun b u hb z => hs.extBut b u hb z
  obtain ⟨q0, q1, q2, q3, q4⟩ := I.pin (C, o) (List.mem_append_right _ (List.mem_append_right _ (List.mem_singleton.mpr rfl)))
  have J : Inv X pins σ H s := I.kJ fun p hp => I.pin p (List.mem_append_right _ (List.mem_append_left _ hp))
  refine J.sJ (s' := { s with heap := h' }) (ch := [C]) rfl ⟨fun b u z n a c => kb b u (fun e => c (by rw [e]; exact List.mem_singleton.mpr rfl)) z, fun b u z n a c => ⟨u.slots, kb b _ (fun e => c (by rw [e]; exact List.mem_singleton.mpr rfl)) z⟩, fun b u z n c => n, fun b u z c => ⟨u, kb b u (fun e => c (by rw [e]; exact List.mem_singleton.mpr rfl)) z⟩, fun b xs z => z, fun b ob u z => z, fun b ps z => ⟨#[], by simpa using z⟩⟩ (J.hok.sameBut q1 kb) J.bare fun b hb => ?_
  have e := List.mem_singleton.mp hb
  subst e
  exact ⟨.inr hC, q2, fun x c z => cC x c z, pC⟩
section
variable {prog : Program} {w : World} {A : Around} {E : Value -> Shared -> Prop} {s : Shared}
theorem fM {it t : Addr} {i : Nat} {its : Array Value} {x : Value} {Q : Value -> Shared -> Prop} (hi : s.heap.IsTupleIter it t i) (ht : s.heap.IsTuple t its) (hx : its[i]? = some x) (hQ : ∀ h', h'.IsTupleIter it t (i + 1) -> Heap.SameBut it s.heap h' -> Q x { s with heap := h' }) :
    wpAny (model prog w) A (Builtin.SmallTypes.nextOf (.ref it)) Q E s := by
  obtain ⟨oi, h1, h2, h3⟩ := id hi
  obtain ⟨ot, k1, _, nt, k2⟩ := ht
  unfold Builtin.SmallTypes.nextOf
  refine wpAny_bind (wpAny_callSpecial?_slot (name := Str.ofString "__next__") hi.typeIs F.slot_tuple_iterator_next (wpAny_call_entry F.slot_tuple_iterator_next hi.typeIs F.entry_tuple_iterator_next ?_ (F.args_tuple_iterator_next_1 _)))
  refine wpAny_bind (m := field (.ref it) 0) (wpAny_field h1 h3 (x := .ref t) rfl ?_)
  show wpAny _ _ (if (Value.ref t == Value.none) = true then _ else field (.ref it) 1 >>= _) _ _ s
  rw [if_neg (show ¬ ((Value.ref t == Value.none) = true) from Bool.false_ne_true)]
  refine wpAny_bind (wpAny_field h1 h3 (x := .int i 0) rfl (wpAny_bind (m := seqItems? (.ref t)) (wpAny_seqItems k1 k2 ?_)))
  simp only [Int.toNat_natCast, hx]
  exact wpAny_bind (wpAny_setField h1 h3 (by simp) (wpAny_pure ⟨x, rfl, wpAny_pure (hQ _ ⟨_, Heap.get?_update_self _ h1 (Obj.isFreed_of_fields (Obj.data_mapFields h3 _)), (Obj.cls_mapFields ..).trans h2, by rw [Obj.data_mapFields h3]; simp [rawInt]⟩ (Heap.SameBut.update ..))⟩))
theorem hZ {it t : Addr} {i : Nat} {its : Array Value} {Q : Value -> Shared -> Prop} (hh : A.handled = none) (hi : s.heap.IsTupleIter it t i) (ht : s.heap.IsTuple t its) (hx : its[i]? = none)
    (hE : ∀ h' e, Heap.ExtBut it s.heap h' -> (∃ o, h'.get? e = some o /\ o.cls = .type "StopIteration") -> E (.ref e) { s with heap := h' }) : wpAny (model prog w) A (Builtin.SmallTypes.nextOf (.ref it)) Q E s := by
  obtain ⟨oi, h1, h2, h3⟩ := id hi
  obtain ⟨ot, k1, _, nt, k2⟩ := ht
  unfold Builtin.SmallTypes.nextOf
  refine wpAny_bind (wpAny_callSpecial?_slot (name := Str.ofString "__next__") hi.typeIs F.slot_tuple_iterator_next (wpAny_call_entry F.slot_tuple_iterator_next hi.typeIs F.entry_tuple_iterator_next ?_ (F.args_tuple_iterator_next_1 _)))
  refine wpAny_bind (m := field (.ref it) 0) (wpAny_field h1 h3 (x := .ref t) rfl ?_)
  show wpAny _ _ (if (Value.ref t == Value.none) = true then _ else field (.ref it) 1 >>= _) _ _ s
  rw [if_neg (show ¬ ((Value.ref t == Value.none) = true) from Bool.false_ne_true)]
  refine wpAny_bind (wpAny_field h1 h3 (x := .int i 0) rfl (wpAny_bind (m := seqItems? (.ref t)) (wpAny_seqItems k1 k2 ?_)))
  simp only [Int.toNat_natCast, hx]
  refine wpAny_bind (wpAny_rule (wpAny_bind (wpAny_setField h1 h3 (by simp) (wpAny_bind (m := newExc (.type "StopIteration") []) ?_))))
  simp only [newExc, newTuple]
  refine wpAny_bind (wpAny_newObj_type (wpAny_bind (m := firstArgMember _ _) (wpAny_of_eq (a := Value.none) (by first | rfl | (simp only [firstArgMember]; rfl)) (wpAny_newObj_type ?_ (by size_fits)))) (by size_fits))
  simp only [raiseNew]
  refine wpAny_bind (wpAny_handled ?_)
  first | rw [show A.in1.handled = none from hh] | rw [hh]
  exact wpAny_bind (wpAny_pure (wpAny_throw (hE _ _ (((Heap.SameBut.update ..).extBut.push _).push _) ⟨_, Heap.get?_push_size _ rfl, rfl⟩)))
end
theorem Draws.tup {prog : Program} {w : World} {A : Around} (hh : A.handled = none) (it t : Addr) (hne : t ≠ it) (its : Array Value) : Draws prog w A it [it, t] its.size (fun i v => its[i]? = some v) (fun i h => h.IsTupleIter it t i /\ h.IsTuple t its) where
  live := fun _ _ z => let ⟨o, ho, _⟩ := z.1; ⟨o, ho⟩
  frame := fun _ _ _ z hk => ⟨z.1.at fun o e => hk it (by simp) o e, z.2.at fun o e => hk t (by simp) o e⟩
  item := fun i s Q E hi z hQ => fM z.1 z.2 (x := its[i]) (by simp [hi]) fun h' a b => hQ _ h' s.toks (by simp [hi]) ⟨a, z.2.extBut b.extBut hne⟩ b
  done := fun s Q E z hE => hZ hh z.1 z.2 (by simp) hE
section
open AutoSeq1 (wpAny_loadPart')
theorem rZ (t : Addr) (its : Array Value) (n : Nat) (dct : Option Addr) (sl : Array (Option Value)) :
    Meets (Builtin.«enumerate.__new__» ⟨[.type "enumerate", .ref t], []⟩) (fun _ R s => s.heap.get? t = some { cls := .type "tuple", dict := dct, data := .seq its n, slots := sl } ∧
      R (.ok (.ret (.ref (s.heap.push { cls := .type "tuple_iterator", data := .fields #[.ref t, .int 0 0] }).objs.size))) { s with heap := (s.heap.push { cls := .type "tuple_iterator", data := .fields #[.ref t, .int 0 0] }).push { cls := .type "enumerate", data := .fields #[.none, .bool false, .ref s.heap.objs.size, rawInt 0, .none, .none] } }) :=
  .of_wp fun prog w A R s z => by
    obtain ⟨hp, gs, dr, tk, os⟩ := s; obtain ⟨ht, z⟩ := z
    have su := sub_enumerate
    have hT : Heap.IsTuple (Shared.heap ⟨hp, gs, dr, tk, os⟩) t its := ⟨_, ht, rfl, n, rfl⟩
    wp_walk using wpAny_loadPart' ht
    refine wpAny_stack_any fun st => wpAny_pure ?_
    split
    · rename_i c _ _ _ _ _
      cases (c == Value.type "enumerate") <;> (wp_walk using wpAny_loadPart' ht, wpAny_pyIter_tuple hT; exact ⟨_, rfl, z⟩)
    · (wp_walk using wpAny_loadPart' ht, wpAny_pyIter_tuple hT); exact ⟨_, rfl, z⟩
end
section
variable {prog : Program} {w : World} {A : Around} {E : Value -> Shared -> Prop} {s : Shared}
theorem B_ {t : Addr} {its : Array Value} {Q : Value -> Shared -> Prop} (hT : s.heap.IsTuple t its)
    (q : ∀ h', IsEnum h' (s.heap.objs.size + 1) s.heap.objs.size 0 .none -> h'.IsTupleIter s.heap.objs.size t 0 -> h'.objs.size = s.heap.objs.size + 2 -> (∀ b o, s.heap.get? b = some o -> h'.get? b = some o) -> Q (.ref (s.heap.objs.size + 1)) { s with heap := h' }) :
    wpAny (model prog w) A (call (.type "enumerate") [.ref t]) Q E s := by
  obtain ⟨⟨c, dct, dt, sl⟩, ht, hc, n, hd⟩ := hT
  replace hc : c = .type "tuple" := hc
  replace hd : dt = .seq its n := hd
  subst hc hd
  refine callType_new F.called_enumerate (by decide) (F.typeCall_enumerate_1 _) (F.newCall_enumerate_1 _) (fun obj => F.args_object_init_2 obj _) F.entry_enumerate_new (rZ t its n dct sl) ⟨ht, ?_⟩
  have hz : (s.heap.push { cls := .type "tuple_iterator", data := .fields #[.ref t, .int 0 0] }).objs.size = s.heap.objs.size + 1 := Heap.size_push ..
  show _ /\ _
  rw [hz]
  have he : IsEnum ((s.heap.push { cls := .type "tuple_iterator", data := .fields #[.ref t, .int 0 0] }).push { cls := .type "enumerate", data := .fields #[.none, .bool false, .ref s.heap.objs.size, rawInt 0, .none, .none] }) (s.heap.objs.size + 1) s.heap.objs.size 0 .none := by
    have y := Heap.get?_push_size (s.heap.push { cls := .type "tuple_iterator", data := .fields #[.ref t, .int 0 0] }) (o := { cls := .type "enumerate", data := .fields #[.none, .bool false, .ref s.heap.objs.size, rawInt 0, .none, .none] }) rfl
    rw [hz] at y; exact y
  exact ⟨⟨_, he, rfl⟩, q _ he ⟨_, Heap.get?_push_of_some _ (Heap.get?_push_size _ rfl), rfl, rfl⟩ (by rw [Heap.size_push, hz]) fun b o x => Heap.get?_push_of_some _ (Heap.get?_push_of_some _ x)⟩
end
theorem Inv.yielded {X : Cx} {pins : List (Addr × Obj)} {σ : St} {H : Hp} {s : Shared} {fp : List Addr} {T : Addr} {o : HO} {h' : Heap} {t' : Nat} (I : Inv X pins σ H s) (hf : ∀ b ∈ fp, l7 X pins H b) (k : ∀ b u, b ∉ fp -> s.heap.get? b = some u -> h'.get? b = some u)
    (hT : s.heap.objs.size <= T) (new : bc X.prog X.w (upd H T o) h' T o) : Inv X pins σ (upd H T o) { s with heap := h', toks := t' } := by
  have nT : ∀ b u, s.heap.get? b = some u -> b ≠ T := fun b u e z => absurd (Heap.lt_size e) (by rw [z]; exact Nat.not_lt.mpr hT)
  have nH : ∀ b u, H b = some u -> b ≠ T := fun b u e z => absurd (I.hok.lt e) (by rw [z]; exact Nat.not_lt.mpr hT)
  have nf : ∀ b u, H b = some u -> b ∉ fp := fun b u e z => by rw [(hf b z).1] at e; cases e
  refine I.sJ (s' := { s with heap := h', toks := t' }) (ch := fp) rfl ⟨fun b u e n _ c => k b u c e, fun b u e n _ c => ⟨u.slots, k b u c e⟩, fun b u e n c => by rw [aE (nT b u e)]; exact n, fun b u e c => ⟨u, k b u c e⟩, fun b xs e => by rw [aE (nH b _ e)]; exact e, fun b ob u e => by rw [aE (nH b _ e)]; exact e, fun b ps e => ⟨#[], by rw [aE (nH b _ e), e]; simp⟩⟩ (fun b u e => ?_) I.bare (fun b hb => ?_)
  · by_cases hb : b = T
    · subst hb
      rw [aR] at e
      cases e
      exact new
    · rw [aE hb] at e
      refine (I.hok b u e).mw (fun c v hc q => k c v ?_ q) (fun c q => by rw [aE (nH c _ q)]; exact q) fun c xs q => by rw [aE (nH c _ q)]; exact q
      rcases hc with z | z
      · rw [z]; exact nf b u e
      · exact nf c _ z
  · obtain ⟨_, g1, _, g3, g4, g5⟩ := hf b hb
    exact ⟨g3, g1, g4, g5⟩
theorem Inv.kK {X : Cx} {pins : List (Addr × Obj)} {σ : St} {H : Hp} {s : Shared} {fp : List Addr} {h' : Heap} {t' : Nat} (I : Inv X pins σ H s) (hf : ∀ b ∈ fp, l7 X pins H b) (k : ∀ b u, b ∉ fp -> s.heap.get? b = some u -> h'.get? b = some u) : Inv X pins σ H { s with heap := h', toks := t' } := by
  have nf : ∀ b u, H b = some u -> b ∉ fp := fun b u e z => by rw [(hf b z).1] at e; cases e
  refine I.sJ (s' := { s with heap := h', toks := t' }) (ch := fp) rfl ⟨fun b u e n _ c => k b u c e, fun b u e n _ c => ⟨u.slots, k b u c e⟩, fun b u e n c => n, fun b u e c => ⟨u, k b u c e⟩, fun b xs e => e, fun b ob u e => e, fun b ps e => ⟨#[], by rw [e]; simp⟩⟩ (fun b u e => ?_) I.bare (fun b hb => ?_)
  · refine (I.hok b u e).mw (fun c v hc q => k c v ?_ q) (fun c q => q) fun c xs q => q
    rcases hc with z | z
    · rw [z]; exact nf b u e
    · exact nf c _ z
  · obtain ⟨_, g1, _, g3, g4, g5⟩ := hf b hb
    exact ⟨g3, g1, g4, g5⟩
noncomputable def Iel (K : PySem.W.Frag) (a : Addr) : It :=
  ⟨fun i H => ∃ xs x, SqL K H a xs /\ xs[i]? = some x, fun i H x H' => ∃ p v, x = .ref p /\ H p = none /\ (∀ xs, SqL K H a xs -> xs[i]? = some v) /\ H' = upd H p (.tup [.int i, v]), fun i H => ∃ xs, SqL K H a xs /\ xs.length <= i⟩
noncomputable def Iet (K : PySem.W.Frag) (a : Addr) : It :=
  ⟨fun i H => ∃ xs x, SqT K H a xs /\ xs[i]? = some x, fun i H x H' => ∃ p v, x = .ref p /\ H p = none /\ (∀ xs, SqT K H a xs -> xs[i]? = some v) /\ H' = upd H p (.tup [.int i, v]), fun i H => ∃ xs, SqT K H a xs /\ xs.length <= i⟩
theorem qz {h : Heap} {e it : Addr} {i : Int} {old : Value} (z : IsEnum h e it i old) : ∃ o, h.get? e = some o /\ ∀ v, o.data ≠ .cell v := ⟨_, z, fun v q => nomatch q⟩
theorem k7 {prog : Program} {w : World} {A : Around} {it : Addr} {fp : List Addr} {n : Nat} {P : Nat -> Value -> Prop} {St : Nat -> Heap -> Prop} (D : Draws prog w A.in1 it fp n P St) (e : Addr) (hei : e ≠ it) (hef : e ∉ fp) (i : Nat) (s : Shared) (Q : Option Value -> Shared -> Prop) (E : Value -> Shared -> Prop) (hi : i < n)
    (hst : (∃ old, IsEnum s.heap e it i old) /\ St i s.heap)
    (hQ : ∀ T vals h' tk, (∃ t x, P i x /\ vals = #[.int i t, x]) -> s.heap.objs.size <= T -> ju h' T vals -> ((∃ x, IsEnumOut h' e it ((i : Int) + 1) x T) /\ St (i + 1) h' /\ T ≠ e /\ T ≠ it) -> (∀ b o, b ∉ [e, it] -> s.heap.get? b = some o -> h'.get? b = some o) -> Q (some (.ref T)) { s with heap := h', toks := tk }) :
    wpAny (model prog w) A (pyNext (.ref e)) Q E s := by
  obtain ⟨⟨old, he⟩, hs⟩ := hst
  refine wpAny_pyNext_enum_itemD D he hs hi hei hef fun x h1 tk hP ho hs1 hT _ hk => ?_
  refine hQ s.heap.objs.size #[.int i tk, x] h1 (tk + 1) ⟨tk, x, hP, rfl⟩ (Nat.le_refl _) ⟨_, hT, ⟨rfl, _, rfl⟩, rfl⟩ ⟨⟨_, ho⟩, hs1, Nat.ne_of_gt (Heap.lt_size he), ?_⟩ fun b o hb y => hk b o (fun z => hb (by simp [z])) (fun z => hb (by simp [z])) y
  obtain ⟨_, y⟩ := D.live _ _ hs
  exact Nat.ne_of_gt (Heap.lt_size y)
theorem r8 {P : Program} {w : World} {K : PySem.W.Frag} {elts : List Expr} {k : Nat} {pos : Pos} {a it e : Addr} (hei : e ≠ it) : Turn P w K (.Tuple elts k pos) (Iel K a) [e, it] e (fun i h => (∃ old, IsEnum h e it i old) /\ h.IsListIter it a i) where
  mem := by simp
  obj := fun i h z b hb => by
    obtain ⟨⟨old, z1⟩, z2⟩ := z
    rcases List.mem_cons.mp hb with rfl | hb
    · exact qz z1
    · rw [List.mem_singleton.mp hb]
      obtain ⟨o, q, _, d⟩ := z2
      exact ⟨o, q, fun v y => by rw [d] at y; cases y⟩
  keep := fun i h h' z kk => ⟨let ⟨old, z1⟩ := z.1; ⟨old, kk e (by simp) _ z1⟩, z.2.at fun o q => kk it (by simp) o q⟩
  item := by
    intro X hP hw hK hc i pins s σ H E I hf st hg
    subst hP hw hK
    obtain ⟨xs, x, hq, hx⟩ := hg
    obtain ⟨its, rv, p, hz⟩ := I.list hq
    obtain ⟨u, hu, ru⟩ := rv.get hx
    have hl := rv.length
    have plt : a < s.heap.objs.size := by obtain ⟨o, q, _⟩ := p.isList; exact Heap.lt_size q
    have hai : a ≠ it /\ a ≠ e := by
      obtain ⟨oa, qa, ca, _⟩ := p.isList
      obtain ⟨⟨old, z1⟩, oi, qi, ci, _⟩ := st
      exact ⟨(fun q => by rw [q, qi] at qa; cases qa; rw [ci] at ca; injection ca with y; exact absurd y (by decide)), (fun q => by rw [q, z1] at qa; cases qa; injection ca with y; exact absurd y (by decide))⟩
    have DD := (Draws.list (prog := X.prog) (w := X.w) (A := X.A.in1) (I.ok.hd hc) it a hai.1 its.toArray)
    have hef0 : e ∉ [it, a] := by simp; exact ⟨hei, fun q => hai.2 q.symm⟩
    have W := WalksT.enumerateD (prog := X.prog) (w := X.w) (A := X.A) DD e hei hef0 (by simp)
    refine k7 DD e hei hef0 i s _ _ (by rw [List.size_toArray, <- hl]; exact (List.getElem?_eq_some_iff.mp hx).1) ⟨st.1, st.2, p.isList⟩ fun T vals h1 tk hv hT ht hm k1 => ?_
    obtain ⟨t, v, hv1, hv2⟩ := hv
    have ev : v = u := by
      have : its[i]? = some v := by simpa using hv1
      rw [hu] at this; exact (Option.some.inj this).symm
    subst ev
    refine ⟨.ref T, rfl, W.go elts k pos i T { s with heap := h1, toks := tk } _ _ hm fun h2 st2 k2 => ?_⟩
    have kk : ∀ b o, b ∉ [e, it] -> s.heap.get? b = some o -> h2.get? b = some o := fun b o hb q => k2 b o hb (k1 b o hb q)
    have hT2 : ju h2 T vals := by
      obtain ⟨o, q, c⟩ := ht
      exact ⟨o, k2 T o (fun z => W.apart _ _ _ hm z) q, c⟩
    have hn : H T = none := I.hok.fresh hT
    have nTf : ∀ b ∈ [e, it], b ≠ T := fun b hb z => by
      have hlt : b < s.heap.objs.size := by
        rcases List.mem_cons.mp hb with rfl | hb
        · obtain ⟨old, z1⟩ := st.1; exact Heap.lt_size z1
        · rw [List.mem_singleton.mp hb]; obtain ⟨o, q, _⟩ := st.2; exact Heap.lt_size q
      rw [z] at hlt; exact absurd hlt (Nat.not_lt.mpr hT)
    refine ⟨.ref T, upd H T (.tup [.int i, x]), I.yielded (t' := tk) hf kk hT ⟨by show 2 <= sizeLine; decide, [.int i t, v], .cons ⟨t, rfl⟩ (.cons ru .nil), ?_⟩, rfl, ⟨T, x, rfl, hn, fun ys hy => by rw [I.hJ hy hq]; exact hx, rfl⟩, ⟨st2.1, st2.2.1⟩, fun b hb => by rw [aE (nTf b hb)]; exact (hf b hb).1⟩
    rw [hv2] at hT2; exact hT2
  done := by
    intro X hP hw hK hc i pins s σ H E I hf st hg
    subst hP hw hK
    obtain ⟨xs, hq, hx⟩ := hg
    obtain ⟨its, rv, p, hz⟩ := I.list hq
    obtain ⟨⟨old, z1⟩, z2⟩ := st
    have hl := rv.length
    exact wpAny_pyNext_enum_end (I.ok.hd hc) z1 z2 p.isList (Array.getElem?_eq_none (by rw [List.size_toArray]; omega)) fun h' eb => ⟨rfl, I.kK (t' := s.toks) hf fun b u hb q => eb b u (fun z => hb (by simp [z])) q⟩
  self := fun A i s Q E z q => by
    obtain ⟨⟨old, z1⟩, z2⟩ := z
    exact wpAny_pyIter_enum z1 q
theorem sj {P : Program} {w : World} {K : PySem.W.Frag} {elts : List Expr} {k : Nat} {pos : Pos} {a it e : Addr} (hei : e ≠ it) : Turn P w K (.Tuple elts k pos) (Iet K a) [e, it] e (fun i h => (∃ old, IsEnum h e it i old) /\ h.IsTupleIter it a i) where
  mem := by simp
  obj := fun i h z b hb => by
    obtain ⟨⟨old, z1⟩, z2⟩ := z
    rcases List.mem_cons.mp hb with rfl | hb
    · exact qz z1
    · rw [List.mem_singleton.mp hb]
      obtain ⟨o, q, _, d⟩ := z2
      exact ⟨o, q, fun v y => by rw [d] at y; cases y⟩
  keep := fun i h h' z kk => ⟨let ⟨old, z1⟩ := z.1; ⟨old, kk e (by simp) _ z1⟩, z.2.at fun o q => kk it (by simp) o q⟩
  item := by
    intro X hP hw hK hc i pins s σ H E I hf st hg
    subst hP hw hK
    obtain ⟨xs, x, hq, hx⟩ := hg
    obtain ⟨its, rv, p, hz⟩ := I.tuple hq
    obtain ⟨u, hu, ru⟩ := rv.get hx
    have hl := rv.length
    have plt : a < s.heap.objs.size := by obtain ⟨o, q, _⟩ := (show s.heap.IsTuple a its.toArray from p); exact Heap.lt_size q
    have hai : a ≠ it /\ a ≠ e := by
      obtain ⟨oa, qa, ca, _⟩ := (show s.heap.IsTuple a its.toArray from p)
      obtain ⟨⟨old, z1⟩, oi, qi, ci, _⟩ := st
      exact ⟨(fun q => by rw [q, qi] at qa; cases qa; rw [ci] at ca; injection ca with y; exact absurd y (by decide)), (fun q => by rw [q, z1] at qa; cases qa; injection ca with y; exact absurd y (by decide))⟩
    have DD := (Draws.tup (prog := X.prog) (w := X.w) (A := X.A.in1) (I.ok.hd hc) it a hai.1 its.toArray)
    have hef0 : e ∉ [it, a] := by simp; exact ⟨hei, fun q => hai.2 q.symm⟩
    have W := WalksT.enumerateD (prog := X.prog) (w := X.w) (A := X.A) DD e hei hef0 (by simp)
    refine k7 DD e hei hef0 i s _ _ (by rw [List.size_toArray, <- hl]; exact (List.getElem?_eq_some_iff.mp hx).1) ⟨st.1, st.2, (show s.heap.IsTuple a its.toArray from p)⟩ fun T vals h1 tk hv hT ht hm k1 => ?_
    obtain ⟨t, v, hv1, hv2⟩ := hv
    have ev : v = u := by
      have : its[i]? = some v := by simpa using hv1
      rw [hu] at this; exact (Option.some.inj this).symm
    subst ev
    refine ⟨.ref T, rfl, W.go elts k pos i T { s with heap := h1, toks := tk } _ _ hm fun h2 st2 k2 => ?_⟩
    have kk : ∀ b o, b ∉ [e, it] -> s.heap.get? b = some o -> h2.get? b = some o := fun b o hb q => k2 b o hb (k1 b o hb q)
    have hT2 : ju h2 T vals := by
      obtain ⟨o, q, c⟩ := ht
      exact ⟨o, k2 T o (fun z => W.apart _ _ _ hm z) q, c⟩
    have hn : H T = none := I.hok.fresh hT
    have nTf : ∀ b ∈ [e, it], b ≠ T := fun b hb z => by
      have hlt : b < s.heap.objs.size := by
        rcases List.mem_cons.mp hb with rfl | hb
        · obtain ⟨old, z1⟩ := st.1; exact Heap.lt_size z1
        · rw [List.mem_singleton.mp hb]; obtain ⟨o, q, _⟩ := st.2; exact Heap.lt_size q
      rw [z] at hlt; exact absurd hlt (Nat.not_lt.mpr hT)
    refine ⟨.ref T, upd H T (.tup [.int i, x]), I.yielded (t' := tk) hf kk hT ⟨by show 2 <= sizeLine; decide, [.int i t, v], .cons ⟨t, rfl⟩ (.cons ru .nil), ?_⟩, rfl, ⟨T, x, rfl, hn, fun ys hy => by rw [I.fA hy hq]; exact hx, rfl⟩, ⟨st2.1, st2.2.1⟩, fun b hb => by rw [aE (nTf b hb)]; exact (hf b hb).1⟩
    rw [hv2] at hT2; exact hT2
  done := by
    intro X hP hw hK hc i pins s σ H E I hf st hg
    subst hP hw hK
    obtain ⟨xs, hq, hx⟩ := hg
    obtain ⟨its, rv, p, hz⟩ := I.tuple hq
    obtain ⟨⟨old, z1⟩, z2⟩ := st
    have hl := rv.length
    have pt : s.heap.IsTuple a its.toArray := p
    have DD : Draws X.prog X.w X.A.in1 it [it, a] i (fun _ _ => True) (fun j h => j = i /\ h.IsTupleIter it a j /\ h.IsTuple a its.toArray) := {
      live := fun _ _ z => let ⟨o, ho, _⟩ := z.2.1; ⟨o, ho⟩
      frame := fun _ _ _ z hk => ⟨z.1, z.2.1.at fun o e => hk it (by simp) o e, z.2.2.at fun o e => hk a (by simp) o e⟩
      item := fun j s Q E hj z hQ => absurd z.1 (Nat.ne_of_lt hj)
      done := fun s Q E z hE => hZ (I.ok.hd hc) z.2.1 z.2.2 (Array.getElem?_eq_none (by rw [List.size_toArray]; omega)) hE }
    exact wpAny_pyNext_enum_endD DD z1 ⟨rfl, z2, pt⟩ fun h' eb => ⟨rfl, I.kK (t' := s.toks) hf fun b u hb q => eb b u (fun z => hb (by simp [z])) q⟩
  self := fun A i s Q E z q => by
    obtain ⟨⟨old, z1⟩, z2⟩ := z
    exact wpAny_pyIter_enum z1 q
noncomputable def C0 (K : PySem.W.Frag) (tl : TE) : TI := fun σ H R => tl σ H fun x H1 => ∃ a, x = .ref a /\ (((∃ xs, SqL K H1 a xs) /\ R (Iel K a) H1) \/ ((∃ xs, SqT K H1 a xs) /\ R (Iet K a) H1))
theorem yw {X : Cx} {elts : List Expr} {kt : Nat} {tp p pos : Pos} {l : Expr} {tl : TE} (hg : Gl X "enumerate") (hm : X.mg "enumerate" = none) (hl : PE X l tl) (hs : starEach [l] X.env = [(false, eval l X.env)] := by rfl) :
    PI X (.Tuple elts kt tp) (.Call (.Name "enumerate" p) [l] [] pos) (C0 X.K tl) := by
  intro pins s σ H R I h
  have h' : zx tl Cs σ H (fun vs H1 => match vs with
    | [x] => ∃ a, x = .ref a /\ (((∃ xs, SqL X.K H1 a xs) /\ R (Iel X.K a) H1) \/ ((∃ xs, SqT X.K H1 a xs) /\ R (Iet X.K a) H1))
    | _ => False) := h
  refine Call_ (jG I hg hm PyProof.Rows.boot_enumerate (PyProof.Rows.callWith_type1 (thn (kE hl rS hs pos pins s σ H _ I h') fun us s1 ⟨vs, H1, I1, r1, q1⟩ => ?_) hs rfl))
  cases r1 with
  | nil => exact q1.elim
  | cons r rr =>
    cases rr with
    | cons _ _ => exact q1.elim
    | nil =>
      obtain ⟨a, rfl, q⟩ := q1
      cases r
      have fp : ∀ {h' : Heap}, ∀ b ∈ [s1.heap.objs.size + 1, s1.heap.objs.size], l7 X pins H1 b := fun {h'} b hb => by
        have hb' : s1.heap.objs.size <= b := by
          rcases List.mem_cons.mp hb with z | hb
          · omega
          · have := List.mem_singleton.mp hb; omega
        exact I1.wb hb' (I1.hok.fresh hb')
      rcases q with ⟨⟨xs, hq⟩, q⟩ | ⟨⟨xs, hq⟩, q⟩
      · obtain ⟨its, rv, pl, hz⟩ := I1.list hq
        refine call_enumerate_list pl.isList fun h2 z1 z2 hsz kp => wpAny_pyIter_enum (s := { s1 with heap := h2 }) z1 ?_
        exact ⟨s1.heap.objs.size + 1, [s1.heap.objs.size + 1, s1.heap.objs.size], _, _, H1, rfl, I1.kept (t' := s1.toks) kp, r8 (a := a) (Nat.succ_ne_self _), ⟨⟨_, z1⟩, z2⟩, fp (h' := h2), q⟩
      · obtain ⟨its, rv, pl, hz⟩ := I1.tuple hq
        refine B_ (show s1.heap.IsTuple a its.toArray from pl) fun h2 z1 z2 hsz kp => wpAny_pyIter_enum (s := { s1 with heap := h2 }) z1 ?_
        exact ⟨s1.heap.objs.size + 1, [s1.heap.objs.size + 1, s1.heap.objs.size], _, _, H1, rfl, I1.kept (t' := s1.toks) kp, sj (a := a) (Nat.succ_ne_self _), ⟨⟨_, z1⟩, z2⟩, fp (h' := h2), q⟩
noncomputable def vV (nt : Nat) (ix : List Nat) (σ : St) : St := List.replicate nt none ++ ix.map fun i => (σ[i]?).join
noncomputable def qv (nt : Nat) (ix : List Nat) (σ σ' : St) : Prop := ∃ ts : St, ts.length = nt /\ σ' = ts ++ ix.map fun i => (σ[i]?).join
noncomputable abbrev Bj (J : It) (nt : Nat) (ix : List Nat) (σ : St) (tg : TG) (tt : TT) (te : TE) (acc : Addr) (H1 : Hp) (Q : VK) : Prop :=
  ∃ W : Nat -> Nat -> List V -> Hp -> Prop, (∃ m, W 0 m [] (upd H1 acc (.lst []))) /\ ∀ i m ys H, W i m ys H →
    (J.stop i H /\ Q (.ref acc) H) \/ (J.go i H /\ ∀ σ0 x H', qv nt ix σ σ0 -> J.yld i H x H' -> tg x σ0 H' fun σ2 Hn => qv nt ix σ σ2 /\ tt σ2 Hn fun b H2 => if b = true then te σ2 H2 fun y H3 =>
        H3 acc = some (.lst ys) /\ ys.length < sizeLine /\ ∃ m', m' < m /\ W (i + 1) m' (ys ++ [y]) (upd H3 acc (.lst (ys ++ [y])))
      else ∃ m', m' < m /\ W (i + 1) m' ys H2)
noncomputable def pv (wi : TI) (nt : Nat) (ix : List Nat) (tg : TG) (tt : TT) (te : TE) : TE := fun σ H Q => wi σ H fun J H1 => ∀ acc, H1 acc = none -> Bj J nt ix σ tg tt te acc H1 Q
theorem uK {X : Cx} {use : Option (Value -> Sem Unit)} {Q2 : Value -> Shared -> Prop} {pins : List (Addr × Obj)} {s : Shared} {σ : St} {H : Hp} {Q : VK} {elt iter tg : Expr} {tn' : List Str} {tgr : TG} {ifs : List Expr} {scope osc : Scope} {pos : Pos} {wi : TI} {tt : TT} {te : TE} (ix : List Nat) (N' : List Str)
    (hxe : X.xe = fun _ _ => False) (hc : X.calm = true) (ho : X.env.scope = osc) (hN : N' = tn' ++ ix.map fun i => (X.N[i]?).getD ("" : Str)) (hnd : N'.Nodup)
    (hall : (∀ y ∈ scope.names, y.2 = .free -> osc.names.lookup y.1 = some .cell) /\ (∀ y ∈ scope.names, y.2 ≠ .cell) /\ scope.kind = .function /\ (∀ y ∈ scope.names, y.2 = .local -> scope.names.lookup y.1 = some .local) /\ (∀ y ∈ N'.drop tn'.length, scope.names.lookup y = some .free))
    (hi : PI X tg iter wi) (hg : ∀ cl C aH aQ fp, PG (bV X scope cl C aH aQ fp N') tg tgr)
    (ht : ∀ cl C aH aQ fp, PTs (bV X scope cl C aH aQ fp N') ifs tt)
    (he : ∀ cl C aH aQ fp, PE (bV X scope cl C aH aQ fp N') elt te)
    (hs : ∀ x, foldedSetIterable iter X.env x = pure x) (I : Inv X pins σ H s) (h : pv wi tn'.length ix tgr tt te σ H Q)
    (hfin : ∀ (acc C : Addr) (H5 : Hp) (s5 : Shared) (o : Obj), Inv X (pins ++ [(C, o)]) σ H5 s5 -> (∀ x c, X.env.cells.lookup x = some c -> c ≠ C) -> X.aH.heap.objs.size <= C -> (∀ p ∈ X.pn ++ pins, p.1 ≠ C) -> (∃ m, ∀ h' : Heap, h'.get? C = some o -> h'.Ns C m) -> Q (.ref acc) H5 -> compPost (model X.prog X.w) X.A X.xe use Q2 (.ref acc) C (.ok .next) s5) :
    wpAny (model X.prog X.w) X.A (comprehension (.ListComp elt [⟨tg, iter, ifs, 0⟩] scope pos) scope X.env (firstIterPos [⟨tg, iter, ifs, 0⟩] pos) (newList []) false (eval iter X.env) use) Q2 X.xe s := by
  obtain ⟨hfr, hcell, hkind, hnames, hcap⟩ := hall
  subst ho
  have outc : ∀ y ∈ scope.names, y.2 = .free -> X.env.kindOf y.1 = some .cell := fun y hy q => hfr y hy q
  obtain ⟨cl, hclos, hcl1, hcl2⟩ := mP (env := X.env) (scope := scope) fun y hy q => I.ok.has y.1 (.inl (outc y hy q))
  refine wpAny_comprehension_free (use := use) rfl hs hclos hkind hnames (thn (hi pins s σ H _ I h) fun v s1 h1 => thn h1 fun itv s2 h2 => ?_)
  obtain ⟨it, fp, tn, J, H2, e, I2, T, st2, f2, rest⟩ := h2
  subst e
  have hf2 : H2 s2.heap.objs.size = none := I2.hok.fresh (Nat.le_refl _)
  obtain ⟨W, ⟨m0, w0⟩, turn⟩ := rest s2.heap.objs.size hf2
  -- the list
  refine wpAny_newObj_type ?_
  have I3 : Inv X pins σ (upd H2 s2.heap.objs.size (.lst [])) { s2 with heap := s2.heap.push { cls := .type "list", dict := none, data := .seq ([] : List Value).toArray } } := I2.Bz (its := []) (t' := s2.toks) .nil (Nat.zero_le _)
  have keep3 : ∀ b o, s2.heap.get? b = some o -> (s2.heap.push { cls := .type "list", dict := none, data := .seq ([] : List Value).toArray }).get? b = some o := fun b o q => Heap.get?_push_of_some _ q
  have fp3 : ∀ b ∈ fp, ∃ o, s2.heap.get? b = some o /\ ∀ v, o.data ≠ .cell v := T.obj _ _ st2
  have st3 : tn 0 (s2.heap.push { cls := .type "list", dict := none, data := .seq ([] : List Value).toArray }) := T.keep _ _ _ st2 fun b _ o q => keep3 b o q
  have fpn : ∀ b ∈ fp, (upd H2 s2.heap.objs.size (HO.lst [])) b = none := fun b hb => by
    obtain ⟨o, q, _⟩ := fp3 b hb
    rw [aE (Nat.ne_of_lt (Heap.lt_size q))]
    exact (f2 b hb).1
  revert I3 keep3 st3 fpn w0
  generalize hS3 : ({ s2 with heap := s2.heap.push { cls := .type "list", dict := none, data := .seq ([] : List Value).toArray } } : Shared) = s3
  generalize hH3 : upd H2 s2.heap.objs.size (HO.lst []) = H3
  intro w0 I3 keep3 st3 fpn
  have acc3 : H3 s2.heap.objs.size = some (.lst []) := by rw [<- hH3]; exact aR
  generalize s2.heap.objs.size = acc at *
  have e3 : s2.heap.push { cls := .type "list", dict := none, data := .seq ([] : List Value).toArray } = s3.heap := by rw [<- hS3]
  have keep3' : ∀ b o, s2.heap.get? b = some o -> s3.heap.get? b = some o := fun b o q => by rw [<- e3]; exact keep3 b o q
  have st3' : tn 0 s3.heap := by rw [<- e3]; exact st3
  refine wpAny_newFunctionEnv hcell (by intro y hy; simp at hy) (fun h₁ hns₁ hsb₁ => ?_) hkind
  have hC : s3.heap.objs.size = s3.heap.objs.size := rfl
  have keep4 : ∀ b o, s3.heap.get? b = some o -> h₁.get? b = some o := fun b o q => hsb₁.extBut b o (Nat.ne_of_lt (Heap.lt_size q)) (Heap.get?_push_of_some _ q)
  have fpC : ∀ b ∈ fp, b ≠ s3.heap.objs.size := fun b hb => by
    obtain ⟨o, q, _⟩ := fp3 b hb
    exact Nat.ne_of_lt (Heap.lt_size (keep3' b o q))
  -- the block's context
  generalize hX' : bV X scope cl s3.heap.objs.size s3 H3 fp N' = X'
  have hXp : X'.prog = X.prog := by rw [<- hX']; rfl
  have hXw : X'.w = X.w := by rw [<- hX']; rfl
  have hXK : X'.K = X.K := by rw [<- hX']; rfl
  have hXA : X'.A = X.A := by rw [<- hX']; rfl
  have hXe : X'.env = compEnvC scope cl s3.heap.objs.size X.env := by rw [<- hX']; rfl
  have hXc : X'.calm = true := by rw [<- hX']; exact hc
  have hXx : X'.xe = fun _ _ => False := by rw [<- hX']; exact hxe
  have hXf : X'.fs = frs X.stack := by rw [<- hX']; rfl
  have hXex : X'.ex = fp := by rw [<- hX']; rfl
  have hXN : X'.N = N' := by rw [<- hX']; rfl
  have hXs : X'.aH = s3 := by rw [<- hX']; rfl
  have hXH : X'.aQ = H3 := by rw [<- hX']; rfl
  have hXpn : X'.pn = [] := by rw [<- hX']; rfl
  have okX : X'.Ok := by
    rw [<- hX']
    refine ⟨I3.ok.mod, hkind, I3.ok.glob, I3.ok.blt, Nat.le_refl _, fun a b c p q => I3.ok.inj a b c (hcl1 a c p) (hcl1 b c q), fun y hy => ?_, fun _ _ z => (by cases z), I3.ok.hd, I3.ok.frames, .inl rfl, fun b hb => ⟨fpC b hb, fun y c p => (f2 b hb).2.2.2.2.1 y c (hcl1 y c p)⟩,
      I3.bs, Nat.le_trans I3.ok.bsz I3.sz, fun b o p hb => ?_, fun b hb z => ?_, I3.stack, I3.sO⟩
    · have hy' : (relabel scope X.env).names.lookup y = some .cell \/ (relabel scope X.env).names.lookup y = some .free := hy
      have free : scope.names.lookup y = some .free -> ∃ c, cl.lookup y = some c := fun q => hcl2 y (lookup_mem q)
      rcases hy' with q | q
      · rcases fF q with z | ⟨z, _⟩
        · exact absurd rfl (hcell _ (lookup_mem z))
        · exact free z
      · rcases fF q with z | ⟨_, z⟩
        · exact free z
        · cases z
    · rcases (f2 b hb).2.2.2.1 with z | z
      · exact I3.ok.xB b o p z
      · exact absurd (Nat.lt_of_lt_of_le (Heap.lt_size p) (Nat.le_trans I3.ok.bsz z)) (Nat.lt_irrefl _)
    · rcases List.mem_cons.mp (I3.oE b z) with q | q
      · exact (f2 b hb).2.1 q
      · exact (f2 b hb).2.2.1 q
  have I4 : ∀ tk, Inv X' [] (vV tn'.length ix σ) H3 { s3 with heap := h₁, toks := tk } := fun tk => by
    have hloc := I3.loc
    refine ⟨okX, by rw [hXs], I3.bare, ?_, ⟨fun y => ([] : List (Str × Value)).reverse.lookup y, by rw [hXe]; exact hns₁, fun i y v e1 e2 e3 => ?_⟩, fun y c p => ?_, ?_, fun y c p => ?_, fun p hp => ?_, ?_, ?_⟩
    · rw [hXf, hXex, hXH, hXs]; exact Un.kept keep4
    · rw [hXN, hN] at e1
      by_cases hit' : i < tn'.length
      · exfalso
        unfold vV at e2
        rw [List.getElem?_append_left (by simpa using hit'), List.getElem?_replicate, if_pos hit'] at e2
        cases e2
      · have e10 : N'[i]? = some y := by rw [hN]; exact e1
        obtain ⟨j, rfl⟩ : ∃ j, i = tn'.length + j := ⟨i - tn'.length, by omega⟩
        have e1' : (ix.map fun i => (X.N[i]?).getD ("" : Str))[j]? = some y := by
          rw [List.getElem?_append_right (by omega)] at e1
          rw [show tn'.length + j - tn'.length = j by omega] at e1
          exact e1
        have e2' : (ix.map fun i => (σ[i]?).join)[j]? = some (some v) := by
          unfold vV at e2
          rw [List.getElem?_append_right (by simp)] at e2
          simpa using e2
        rw [List.getElem?_map] at e1' e2'
        cases hj : ix[j]? with
        | none => rw [hj] at e1'; cases e1'
        | some i0 =>
          rw [hj] at e1' e2'
          have e1'' : (X.N[i0]?).getD ("" : Str) = y := by simpa using e1'
          have e2'' : (σ[i0]?).join = some v := by simpa using e2'
          have hsv : σ[i0]? = some (some v) := by
            cases q : σ[i0]? with
            | none => rw [q] at e2''; cases e2''
            | some z => rw [q] at e2''; have : z = some v := by simpa using e2''
                        rw [this]
          have hlt : i0 < X.N.length := by
            have := (List.getElem?_eq_some_iff.mp hsv).1
            rw [I3.len] at this; exact this
          have hNy : X.N[i0]? = some y := by
            rw [List.getElem?_eq_getElem hlt] at e1'' ⊢
            simpa using e1''
          have hyt : y ∈ N'.drop tn'.length := by
            refine List.mem_of_getElem? (i := j) ?_
            rw [List.getElem?_drop]; exact e10
          have hyf := hcap y hyt
          have hyc := outc (y, .free) (lookup_mem hyf) rfl
          obtain ⟨m, hn, hl⟩ := hloc
          obtain ⟨u, r, l⟩ := hl i0 y v hNy hsv (.inr (.inl hyc))
          refine ⟨u, r, ?_⟩
          rcases l with ⟨k1, _⟩ | ⟨_, c, p, z⟩
          · have hyc' : X.env.kindOf y = some .cell := hyc
            rw [k1] at hyc'; cases hyc'
          · obtain ⟨c', p'⟩ := hcl2 y (lookup_mem hyf)
            have pc : c' = c := by
              have := hcl1 y c' p'
              rw [p] at this; cases this; rfl
            subst pc
            refine .inr ⟨.inl ?_, c', by rw [hXe]; exact p', ?_⟩
            · rw [hXe]; exact dH I3.ok.kind hyf hyc
            · obtain ⟨o, q1, q2⟩ := z
              exact ⟨o, keep4 c' o q1, q2⟩
    · rw [hXe] at p
      obtain ⟨v, o, q1, q2⟩ := I3.cell y c (hcl1 y c p)
      exact ⟨v, o, keep4 c o q1, q2⟩
    · rw [hXe]; exact I3.hok.fresh (Nat.le_refl _)
    · rw [hXe] at p; exact I3.iu y c (hcl1 y c p)
    · rw [hXpn] at hp; cases hp
    · rw [hXp, hXw]; exact I3.hok.kept keep4
    · rw [hXN, hN]; simp [vV]
  -- the loop
  have stat : ∀ {H' : Hp}, (∀ b ∈ fp, H' b = none) -> ∀ b ∈ fp, l7 X' [] H' b := fun hn b hb => by
    refine ⟨hn b hb, by rw [hXe]; exact fpC b hb, ?_, .inl (by rw [hXex]; exact hb), fun y c p => ?_, fun p hp => by rw [hXpn] at hp; cases hp⟩
    · rw [hXf]; intro z
      rcases List.mem_cons.mp (I3.oE b z) with q | q
      · exact (f2 b hb).2.1 q
      · exact (f2 b hb).2.2.1 q
    · rw [hXe] at p; exact (f2 b hb).2.2.2.2.1 y c (hcl1 y c p)
  have fin : ∀ {H5 : Hp} {s5 : Shared} {σ5 : St}, Inv X' [] σ5 H5 s5 -> Q (.ref acc) H5 -> compPost (model X.prog X.w) X.A X.xe use Q2 (.ref acc) s3.heap.objs.size (.ok .next) s5 := fun {H5 s5 σ5} I5 q => by
    obtain ⟨m, hn, _⟩ := I5.loc
    rw [hXe] at hn
    have hn' : s5.heap.Ns s3.heap.objs.size m := hn
    obtain ⟨oC, esC, epC, hC1, hC2, hC3⟩ := hn'
    have u5 := I5.base
    rw [hXf, hXex, hXH, hXs] at u5
    have fr : H5 s3.heap.objs.size = none := by have := I5.free; rw [hXe] at this; exact this
    have hok5 := I5.hok
    rw [hXp, hXw] at hok5
    have hos : s5.os = s3.os := by have := I5.os; rw [hXs] at this; exact this
    have IX : Inv X pins σ H5 s5 := I3.sJ (s' := s5) (ch := fp) hos u5 hok5 I5.bare (fun b hb => by
      obtain ⟨g0, g1, g2, g3, g4, g5⟩ := f2 b hb
      exact ⟨g3, g1, g4, g5⟩)
    have cC : ∀ x c, X.env.cells.lookup x = some c -> c ≠ s3.heap.objs.size := fun x c z e => by
      obtain ⟨v, q⟩ := I3.cell x c z
      exact absurd q.lt (by rw [e]; exact Nat.lt_irrefl _)
    have pC : ∀ p ∈ X.pn ++ pins, p.1 ≠ s3.heap.objs.size := fun p hp e => by
      have := Heap.lt_size (I3.pin p hp).1
      rw [e] at this
      exact Nat.lt_irrefl _ this
    refine hfin acc s3.heap.objs.size H5 s5 oC (IX.kJ fun p hp => ?_) cC I3.sz pC ⟨m, fun h' z => ⟨oC, esC, epC, z, hC2, hC3⟩⟩ q
    rcases List.mem_append.mp hp with z | z
    · exact IX.pin p (List.mem_append_right _ z)
    · have e := List.mem_singleton.mp z
      subst e
      refine ⟨hC1, fr, Nat.ne_of_gt I3.lt, I3.B6 (Nat.le_refl _), fun v e => ?_⟩
      have e' : oC.data = .cell v := e
      rw [hC2] at e'; cases e'
  have loop : ∀ tk, codeAny (model X.prog X.w) X.A (.compLoop (.ListComp elt [⟨tg, iter, ifs, 0⟩] scope pos) 0 (.ref it) (.ref acc) (compEnvC scope cl s3.heap.objs.size X.env))
      (compPost (model X.prog X.w) X.A X.xe use Q2 (.ref acc) s3.heap.objs.size) { s3 with heap := h₁, toks := tk } := fun tk => by
    refine p_ (fun n s' => ∃ i ys σ' H', Inv X' [] σ' H' s' /\ qv tn'.length ix σ σ' /\ tn i s'.heap /\ (∀ b ∈ fp, H' b = none) /\ W i n ys H') (fun n s5 h5 => ?_) m0
      ⟨0, [], vV tn'.length ix σ, H3, I4 tk, ⟨_, List.length_replicate, rfl⟩, T.keep _ _ _ st3' fun b _ o q => keep4 b o q, fpn, w0⟩
    obtain ⟨i, ys, σ5, H5, I5, hσ, st5, fr5, w5⟩ := h5
    rcases turn i n ys H5 w5 with ⟨stop, q⟩ | ⟨go, step⟩
    · have d := T.done X' hXp hXw hXK hXc i [] s5 σ5 H5 (fun _ _ => False) I5 (stat fr5) st5 stop
      rw [hXA] at d
      refine thn d fun r s6 ⟨hr, I6⟩ => ?_
      subst hr
      exact fin I6 q
    · have d := T.item X' hXp hXw hXK hXc i [] s5 σ5 H5 (fun _ _ => False) I5 (stat fr5) st5 go
      rw [hXA] at d
      refine thn d fun r s6 ⟨u, hr, h6⟩ => ?_
      subst hr
      refine thn h6 fun _ s7 ⟨z, H7, I7, r7, y7, st7, fr7⟩ => ?_
      have I7' := I7.pinned (stat fr7) (T.obj _ _ st7)
      have again : ∀ {H9 : Hp} {s9 : Shared} {ys9 : List V} {σ9 : St}, Inv X' ([] ++ lZ fp s7.heap) σ9 H9 s9 -> qv tn'.length ix σ σ9 -> (∃ m', m' < n /\ W (i + 1) m' ys9 H9) -> ∃ m', m' < n /\ ∃ i ys σ' H', Inv X' [] σ' H' s9 /\ qv tn'.length ix σ σ' /\ tn i s9.heap /\ (∀ b ∈ fp, H' b = none) /\ W i m' ys H' := fun {H9 s9 ys9 σ9} I9 c9 ⟨m', hm, w9⟩ => by
        refine ⟨m', hm, i + 1, ys9, _, H9, I9.jd, c9, T.keep _ _ _ st7 fun b hb o e => (I9.pin (b, o) (List.mem_append_right _ (List.mem_append_right _ (fZ hb e)))).1, fun b hb => ?_, w9⟩
        obtain ⟨o, e, _⟩ := T.obj _ _ st7 b hb
        exact (I9.pin (b, o) (List.mem_append_right _ (List.mem_append_right _ (fZ hb e)))).2.1
      have ht' := ht cl s3.heap.objs.size s3 H3 fp
      have he' := he cl s3.heap.objs.size s3 H3 fp
      have hg' := hg cl s3.heap.objs.size s3 H3 fp
      rw [hX'] at ht' he' hg'
      rw [<- hXe]
      have a0 := hg' _ s7 σ5 H7 z u _ I7' r7 (step σ5 z H7 hσ y7)
      rw [hXp, hXw, hXA, hXx] at a0
      refine thn a0 fun _ s8 ⟨σ8, H8, I8, c8, q8⟩ => ?_
      have a1 := ht' _ s8 _ H8 _ I8 q8
      rw [hXp, hXw, hXA, hXx] at a1
      refine thn a1 fun b s9 ⟨H9, I9, q9⟩ => ?_
      cases b with
      | false => exact again I9 c8 q9
      | true =>
        have a2 := he' _ s9 _ H9 _ I9 q9
        rw [hXp, hXw, hXA, hXx] at a2
        refine thn a2 fun yv s10 ⟨y, H10, I10, r10, q1, q2, q3⟩ => ?_
        have a3 := uN (X := X') _ s10 _ H10 (.ref acc) [y] (.ref acc) [yv] (fun _ Hq => ∃ m', m' < n /\ W (i + 1) m' (ys ++ [y]) Hq) I10 rfl (.cons r10 .nil) ⟨acc, ys, y, rfl, rfl, q1, q2, q3⟩
        rw [hXp, hXw, hXA, hXx] at a3
        exact thn a3 fun _ s11 ⟨_, H11, I11, _, q11⟩ => again I11 c8 q11
  refine codeAny_compStart_list (loop _) ?_
  exact T.self _ 0 _ _ _ (T.keep _ _ _ st3' fun b _ o q => keep4 b o q) (loop _)
section
variable {X : Cx} {elt iter tg : Expr} {tn' : List Str} {tgr : TG} {ifs : List Expr} {scope osc : Scope} {pos : Pos} {wi : TI} {tt : TT} {te : TE}
theorem qJ (ix : List Nat) (tn' N' : List Str)
    (hxe : X.xe = fun _ _ => False) (hc : X.calm = true) (ho : X.env.scope = osc) (hN : N' = tn' ++ ix.map fun i => (X.N[i]?).getD ("" : Str)) (hnd : N'.Nodup)
    (hall : (∀ y ∈ scope.names, y.2 = .free -> osc.names.lookup y.1 = some .cell) /\ (∀ y ∈ scope.names, y.2 ≠ .cell) /\ scope.kind = .function /\ (∀ y ∈ scope.names, y.2 = .local -> scope.names.lookup y.1 = some .local) /\ (∀ y ∈ N'.drop tn'.length, scope.names.lookup y = some .free))
    (hi : PI X tg iter wi) (hg : ∀ cl C aH aQ fp, PG (bV X scope cl C aH aQ fp N') tg tgr)
    (ht : ∀ cl C aH aQ fp, PTs (bV X scope cl C aH aQ fp N') ifs tt)
    (he : ∀ cl C aH aQ fp, PE (bV X scope cl C aH aQ fp N') elt te)
    (hs : ∀ x, foldedSetIterable iter X.env x = pure x := by intro _; rfl) :
    PE X (.ListComp elt [⟨tg, iter, ifs, 0⟩] scope pos) (pv wi tn'.length ix tgr tt te) := by
  intro pins s σ H Q I h
  have e : eval (.ListComp elt [⟨tg, iter, ifs, 0⟩] scope pos) X.env = comprehension (.ListComp elt [⟨tg, iter, ifs, 0⟩] scope pos) scope X.env (firstIterPos [⟨tg, iter, ifs, 0⟩] pos) (newList []) false (eval iter X.env) none := by
    rw [eval_ListComp]; rfl
  rw [e]
  refine uK (use := none) (Q2 := EP X pins σ Q) ix N' hxe hc ho hN hnd hall hi hg ht he hs I h fun acc C H5 s5 o I5 cC hC pC hm q => ?_
  obtain ⟨m, hm⟩ := hm
  exact ⟨m, hm _ (I5.pin (C, o) (List.mem_append_right _ (List.mem_append_right _ (List.mem_singleton.mpr rfl)))).1, fun h' hs' => ⟨.ref acc, H5, I5.Dl cC hC pC hs', rfl, q⟩⟩
end
section
variable {κ : Type} [DecidableEq κ]
noncomputable def i3 (kvs : List (κ × V)) (k : κ) : Option V := (kvs.find? fun kv => decide (kv.1 = k)).map (·.2)
noncomputable def putK (kvs : List (κ × V)) (k : κ) (v : V) : List (κ × V) :=
  if (kvs.any fun kv => decide (kv.1 = k)) = true then kvs.map (fun kv => if kv.1 = k then (kv.1, v) else kv) else kvs ++ [(k, v)]
theorem i5 {p : κ × V} {r : List (κ × V)} {k : κ} (e : p.1 = k) : i3 (p :: r) k = some p.2 := by simp [i3, List.find?_cons, e]
theorem jy {p : κ × V} {r : List (κ × V)} {k : κ} (e : ¬ p.1 = k) : i3 (p :: r) k = i3 r k := by simp [i3, List.find?_cons, e]
theorem qu (k : κ) : ∀ kvs : List (κ × V), (kvs.any fun kv => decide (kv.1 = k)) = (i3 kvs k).isSome
  | [] => rfl
  | p :: r => by
    rw [List.any_cons]
    by_cases e : p.1 = k
    · simp only [i5 e, decide_eq_true e, Bool.true_or, Option.isSome_some]
    · rw [jy e, decide_eq_false e, Bool.false_or]; exact qu k r
theorem j1 (kvs : List (κ × V)) (k : κ) (v : V) : (putK kvs k v).length <= kvs.length + 1 := by
  unfold putK
  split
  · rw [List.length_map]; omega
  · rw [List.length_append, List.length_cons, List.length_nil]; omega
theorem jK.tG {o : Option V} {u : Option Value} (r : jK o u) : o.isSome = u.isSome := by
  cases o with
  | none => cases u with
    | none => rfl
    | some _ => exact (show False from r).elim
  | some _ => cases u with
    | none => exact (show False from r).elim
    | some _ => rfl
theorem jK.getD {o : Option V} {u : Option Value} {d : V} {d' : Value} (r : jK o u) (rd : RelV d d') : RelV (o.getD d) (u.getD d') := by
  cases o with
  | none => cases u with
    | none => exact rd
    | some _ => exact (show False from r).elim
  | some _ => cases u with
    | none => exact (show False from r).elim
    | some _ => exact r
theorem KV.val {kvs : List (κ × V)} {vs : List (κ × Value)} (r : KV kvs vs) (k : κ) : jK (i3 kvs k) (valueAt vs k) := by
  unfold KV at r
  induction r with
  | nil => exact True.intro
  | @cons p q ps qs h t ih =>
    obtain ⟨h1, h2⟩ := h
    by_cases e : p.1 = k
    · have e' : q.1 = k := h1.symm.trans e
      have b : valueAt (q :: qs) k = some q.2 := by simp [valueAt, List.find?_cons, e']
      rw [i5 e, b]; exact h2
    · have e' : ¬ q.1 = k := fun z => e (h1.trans z)
      have b : valueAt (q :: qs) k = valueAt qs k := by simp [valueAt, List.find?_cons, e']
      rw [jy e, b]; exact ih
theorem KV.any {kvs : List (κ × V)} {vs : List (κ × Value)} (r : KV kvs vs) (k : κ) : (kvs.any fun kv => decide (kv.1 = k)) = vs.any fun kv => decide (kv.1 = k) := by
  unfold KV at r
  induction r with
  | nil => rfl
  | cons h t ih => rw [List.any_cons, List.any_cons, ih, h.1]
theorem KV.tJ {kvs : List (κ × V)} {vs : List (κ × Value)} (r : KV kvs vs) (k : κ) {y : V} {u : Value} (ry : RelV y u) :
    KV (kvs.map fun kv => if kv.1 = k then (kv.1, y) else kv) (vs.map fun kv => if kv.1 = k then (kv.1, u) else kv) := by
  unfold KV at r ⊢
  induction r with
  | nil => exact .nil
  | @cons p q ps qs h t ih =>
    rw [List.map_cons, List.map_cons]
    refine .cons ?_ ih
    obtain ⟨h1, h2⟩ := h
    by_cases e : p.1 = k
    · rw [if_pos e, if_pos (h1.symm.trans e)]; exact ⟨h1, ry⟩
    · rw [if_neg e, if_neg (fun z => e (h1.trans z))]; exact ⟨h1, h2⟩
theorem KV.put {kvs : List (κ × V)} {vs : List (κ × Value)} (r : KV kvs vs) (k : κ) {y : V} {u : Value} (ry : RelV y u) : KV (putK kvs k y) (stored vs k u) := by
  unfold putK stored
  rw [r.any k]
  by_cases e : (vs.any fun kv => decide (kv.1 = k)) = true
  · rw [if_pos e, if_pos e]; exact r.tJ k ry
  · rw [if_neg e, if_neg e]; exact Paired.snoc r ⟨rfl, ry⟩
theorem KV.length {kvs : List (κ × V)} {vs : List (κ × Value)} (r : KV kvs vs) : kvs.length = vs.length := Paired.length r
end
theorem tf {P : Program} {w : World} {k : Key} {u : Value} (r : RelV (kV k) u) : (bJ P w).is k u = true := by
  cases k with
  | inl i => obtain ⟨t, e⟩ := (show ∃ t, u = Value.int i t from r); subst e; exact qO P w i t
  | inr x => obtain ⟨t, e⟩ := (show ∃ t, u = Value.str x t from r); subst e; exact qd P w x t
theorem nI {P : Program} {w : World} : ∀ {ks : List Key} {us : List Value}, Vals (ks.map kV) us -> ItemsAre (bJ P w) ks us
  | [], _, r => by rw [List.map_nil] at r; cases r; exact .nil
  | k :: ks, _, r => by
    rw [List.map_cons] at r
    cases r with
    | cons h t => exact .cons (tf h) (nI t)
noncomputable abbrev KT (H : Hp) : List (List Key × V) -> List (List Key × Addr × Value) -> Prop := Paired fun p q => p.1 = q.1 /\ H q.2.1 = some (.tup (p.1.map kV)) /\ RelV p.2 q.2.2
theorem KT.val {H : Hp} {kvs : List (List Key × V)} {xs : List (List Key × Addr × Value)} (r : KT H kvs xs) (k : List Key) : jK (i3 kvs k) ((atKey xs k).map (·.2)) := by
  induction r with
  | nil => exact True.intro
  | @cons p q ps qs h t ih =>
    obtain ⟨h1, _, h2⟩ := h
    by_cases e : p.1 = k
    · have e' : q.1 = k := h1.symm.trans e
      have b : atKey (q :: qs) k = some q.2 := by simp [atKey, List.find?_cons, e']
      rw [i5 e, b]; exact h2
    · have e' : ¬ q.1 = k := fun z => e (h1.trans z)
      have b : atKey (q :: qs) k = atKey qs k := by simp [atKey, List.find?_cons, e']
      rw [jy e, b]; exact ih
theorem KT.tJ {H : Hp} {kvs : List (List Key × V)} {xs : List (List Key × Addr × Value)} (r : KT H kvs xs) (k : List Key) {y : V} {u : Value} (ry : RelV y u) :
    KT H (kvs.map fun kv => if kv.1 = k then (kv.1, y) else kv) (xs.map (putAt k u)) := by
  induction r with
  | nil => exact .nil
  | @cons p q ps qs h t ih =>
    rw [List.map_cons, List.map_cons]
    refine .cons ?_ ih
    obtain ⟨h1, h2, h3⟩ := h
    unfold putAt
    by_cases e : p.1 = k
    · rw [if_pos e, if_pos (h1.symm.trans e)]; exact ⟨h1, h2, ry⟩
    · rw [if_neg e, if_neg (fun z => e (h1.trans z))]; exact ⟨h1, h2, h3⟩
theorem KT.put {H : Hp} {kvs : List (List Key × V)} {xs : List (List Key × Addr × Value)} (r : KT H kvs xs) (k : List Key) {b : Addr} {y : V} {u : Value} (hb : H b = some (.tup (k.map kV))) (ry : RelV y u) :
    KT H (putK kvs k y) (storedH xs k b u) := by
  have e : (kvs.any fun kv => decide (kv.1 = k)) = (atKey xs k).isSome := by
    rw [qu, (r.val k).tG, Option.isSome_map]
  unfold putK storedH
  rw [e]
  by_cases q : (atKey xs k).isSome = true
  · rw [if_pos q, if_pos q]; exact r.tJ k ry
  · rw [if_neg q, if_neg q]; exact Paired.snoc r ⟨rfl, hb, ry⟩
theorem KT.keeps {H H' : Hp} {kvs : List (List Key × V)} {xs : List (List Key × Addr × Value)} (r : KT H kvs xs) (ht : ∀ b ys, H b = some (.tup ys) -> H' b = some (.tup ys)) : KT H' kvs xs :=
  Paired.vE r fun _ _ z => ⟨z.1, ht _ _ z.2.1, z.2.2⟩
section
variable {P : Program} {w : World} {H : Hp} {h : Heap} {a : Addr}
theorem zF {u : HO} (ok : HOk P w H h) (e : Rd H a u) : bc P w H h a u := e.ok ok
theorem qC {kvs : List (Key × V)} (ok : HOk P w H h) (e : Rd H a (.dK kvs)) : kvs.length <= sizeLine /\ (a == sysModules) = false /\ ∃ vs, KV kvs vs /\ h.DictOf (bJ P w) a vs :=
  show bc P w H h a (.dK kvs) from zF ok e
theorem CD {kvs : List (Key × V)} (ok : HOk P w H h) (e : H a = some (.dK kvs)) : kvs.length <= sizeLine /\ (a == sysModules) = false /\ ∃ vs, KV kvs vs /\ h.DictOf (bJ P w) a vs := qC ok (.inl e)
theorem o6 {ks : List Key} (ok : HOk P w H h) (e : H a = some (.tup (ks.map kV))) : (tupleKind (bJ P w)).is h ks a := by
  obtain ⟨_, its, r, o, h1, ⟨h2, n, h3⟩, _⟩ := (show bc P w H h a (.tup (ks.map kV)) from ok a _ e)
  exact ⟨o, its.toArray, n, h1, h2, h3, by simpa using nI r⟩
theorem pY {kvs : List (List Key × V)} (ok : HOk P w H h) (e : Rd H a (.dT kvs)) : kvs.length <= sizeLine /\ (a == sysModules) = false ∧
    ∃ xs, KT H kvs xs /\ h.DictOfH (tupleKind (bJ P w)) a xs := by
  obtain ⟨z, y, xs, r, o, es, ep, h1, h2, h3, h4, h5⟩ := (show bc P w H h a (.dT kvs) from zF ok e)
  refine ⟨z, y, xs, r, o, es, ep, h1, h2, h3, h4, fun x hx => ?_, h5⟩
  have all : ∀ {l : List (List Key × V)} {m : List (List Key × Addr × Value)}, KT H l m -> ∀ x ∈ m, (tupleKind (bJ P w)).is h x.1 x.2.1 := by
    intro l m q
    induction q with
    | nil => intro x hx; exact nomatch hx
    | @cons p q ps qs hq t ih =>
      intro x hx
      rcases List.mem_cons.mp hx with e | hx
      · subst e
        exact o6 ok (by rw [<- hq.1]; exact hq.2.1)
      · exact ih x hx
  exact all r x hx
theorem Ct {kvs : List (List Key × V)} (ok : HOk P w H h) (e : H a = some (.dT kvs)) : kvs.length <= sizeLine /\ (a == sysModules) = false ∧
    ∃ xs, KT H kvs xs /\ h.DictOfH (tupleKind (bJ P w)) a xs := pY ok (.inl e)
end
noncomputable def nX (H : Hp) (a : Addr) (y : V) (r : Option V) : Prop :=
  (∃ kvs k, Rd H a (.dK kvs) /\ y = kV k /\ r = i3 kvs k) \/ ∃ kvs k b, Rd H a (.dT kvs) /\ y = .ref b /\ H b = some (.tup (k.map kV)) /\ r = i3 kvs k
noncomputable def vW (H : Hp) (a : Addr) (y v : V) (H' : Hp) : Prop :=
  (∃ kvs k, H a = some (.dK kvs) /\ y = kV k /\ kvs.length < sizeLine /\ H' = upd H a (.dK (putK kvs k v))) ∨
  ∃ kvs k b, H a = some (.dT kvs) /\ y = .ref b /\ H b = some (.tup (k.map kV)) /\ kvs.length < sizeLine /\ H' = upd H a (.dT (putK kvs k v))
theorem nX.t {H : Hp} {a b : Addr} {kvs : List (List Key × V)} {k : List Key} (e : H a = some (.dT kvs)) (eb : H b = some (.tup (k.map kV))) : nX H a (.ref b) (i3 kvs k) := .inr ⟨kvs, k, b, .inl e, rfl, eb, rfl⟩
theorem vW.t {H : Hp} {a b : Addr} {kvs : List (List Key × V)} {k : List Key} {v : V} (e : H a = some (.dT kvs)) (eb : H b = some (.tup (k.map kV))) (hl : kvs.length < sizeLine) :
    vW H a (.ref b) v (upd H a (.dT (putK kvs k v))) := .inr ⟨kvs, k, b, e, rfl, eb, hl, rfl⟩
section
variable {X : Cx} {pins : List (Addr × Obj)} {σ : St} {H : Hp} {s : Shared} {a : Addr} {y v : V} {u r : Value} {o : Option V} {A : Around} {E : Value -> Shared -> Prop}
theorem Inv.big (I : Inv X pins σ H s) : sysModules < s.heap.objs.size := by
  have h : mainGlobals < s.heap.objs.size := (I.mod.glob.keeps I.bk).lt
  exact Nat.lt_trans (by decide) h
theorem tR {Q : Value -> Shared -> Prop} (hu : A.units + 1 < cLine) (I : Inv X pins σ H s) (g : nX H a y (some v)) (ry : RelV y u) (h : ∀ w' s', Inv X pins σ H s' -> RelV v w' -> Q w' s') :
    wpAny (model X.prog X.w) A (getItem (.ref a) u) Q E s := by
  rcases g with ⟨kvs, k, e, ey, l⟩ | ⟨kvs, k, b, e, ey, eb, l⟩
  · subst ey
    obtain ⟨z, hd, vs, rel, dd⟩ := qC I.hok e
    obtain ⟨w', hw, rw'⟩ := jK.some_of (v := v) (o := valueAt vs k) (by rw [l]; exact rel.val k)
    exact wpAny_getItem_of (tf ry) dd.mapOf hw (h w' _ (I.tok _) rw')
  · subst ey
    cases (show u = Value.ref b from ry)
    obtain ⟨z, hd, xs, rel, dd⟩ := pY I.hok e
    obtain ⟨w', hw, rw'⟩ := jK.some_of (v := v) (o := (atKey xs k).map (·.2)) (by rw [l]; exact rel.val k)
    obtain ⟨p, hp, hp2⟩ := Option.map_eq_some_iff.mp hw
    refine wpAny_getItem_heap (tupleKind_room_in1 hu) (o6 I.hok eb) dd hp ?_
    rw [hp2]
    exact h w' _ (I.tok _) rw'
theorem sU {h' : Heap} {t' : Nat} {ob : HO} (I : Inv X pins σ H s) (mu : Mut (H a)) (hs : Heap.SameBut a s.heap h') (he : ∃ q, h'.get? a = some q) (new : bc X.prog X.w (upd H a ob) h' a ob) :
    Inv X pins σ (upd H a ob) { s with heap := h', toks := t' } :=
  I.write (x := a) (e := a) mu (.inl rfl) (fun b q hb z => (hs.2 b hb).trans z) he new
theorem Bs {P : Program} {w : World} {H' : Hp} {h' : Heap} {kvs : List (Key × V)} {vs : List (Key × Value)} (z : kvs.length <= sizeLine) (hd : (a == sysModules) = false) (rel : KV kvs vs) (dd : h'.DictOf (bJ P w) a vs) :
    bc P w H' h' a (.dK kvs) := ⟨z, hd, vs, rel, dd⟩
theorem uG {H' : Hp} {Q : Unit -> Shared -> Prop} (hu : A.units + 1 < cLine) (I : Inv X pins σ H s) (g : vW H a y v H') (ry : RelV y u) (rv : RelV v r) (h : ∀ s', Inv X pins σ H' s' -> Q () s') :
    wpAny (model X.prog X.w) A (setItem (.ref a) u r) Q E s := by
  rcases g with ⟨kvs, k, e, ey, l, eH⟩ | ⟨kvs, k, b, e, ey, eb, l, eH⟩
  · subst ey eH
    obtain ⟨z, hd, vs, rel, dd⟩ := CD I.hok e
    have hz : vs.length <= sizeLine := by rw [<- rel.length]; exact z
    have hl : (putK kvs k v).length <= sizeLine := by have := j1 kvs k v; omega
    refine wpAny_setItem_pairs (hsz := hz) (tf ry) dd fun h' dd' hs => h _ ?_
    have he : ∃ q, h'.get? a = some q := let ⟨q, _, _, hq, _⟩ := dd'; ⟨q, hq⟩
    exact sU I (by rw [e]; exact True.intro) hs he (Bs hl hd (rel.put k rv) dd')
  · subst ey eH
    cases (show u = Value.ref b from ry)
    obtain ⟨z, hd, xs, rel, dd⟩ := Ct I.hok e
    have hz : xs.length <= sizeLine := by rw [<- Paired.length rel]; exact z
    have hl : (putK kvs k v).length <= sizeLine := by have := j1 kvs k v; omega
    refine wpAny_setItem_heap (hsz := hz) (tupleKind_room_in1 hu) (o6 I.hok eb) dd fun h' dd' hs => h _ ?_
    obtain ⟨q, es, ep, hq, h2, h3, h4, _, h5⟩ := dd'
    refine sU I (by rw [e]; exact True.intro) hs ⟨q, hq⟩ ⟨hl, hd, _, (rel.put k eb rv).keeps fun c ys ec => ?_, q, es, ep, hq, h2, h3, h4, h5⟩
    rw [aE (Cr ec e (fun z => nomatch z))]
    exact ec
end
noncomputable def Ba (i : Expr) : Prop := ∀ ov iv, subscripted i false ov iv = operate [ov, iv] (getItem ov iv)
theorem zc {prog : Program} {w : World} {A : Around} {E : Value -> Shared -> Prop} {s : Shared} {env : Env} {value slice : Expr} {pos : Pos} {T id : String} {Q : Value -> Shared -> Prop}
    (hl : typeLookup (.type T) "__getitem__" = pure (some (.builtin id))) (hs : Ba slice)
    (h : wpAny (model prog w) A (eval value env) (fun o s₁ => wpAny (model prog w) A (eval slice env) (fun i s₂ => s₂.TypeIs o T /\ wpAny (model prog w) A (getItem o i) Q E s₂) E s₁) E s) :
    wpAny (model prog w) A (eval (.Subscript value slice pos) env) Q E s := by
  refine Subscript_ (wpAny_mono h (fun o s₁ h₁ => wpAny_mono h₁ (fun i s₂ h₂ => ?_) fun _ _ x => x) fun _ _ x => x)
  obtain ⟨hT, h₂⟩ := h₂
  unfold subscriptTail
  refine wpAny_bind ?_
  rw [getitemInPython_of_ne hT.not_modules]
  refine wpAny_bind (wpAny_specialOf hT hl ?_)
  have fin : wpAny (model prog w) A (subscripted slice false o i) (fun r s₃ => wpAny (model prog w) A (letTemporaryGo value o r >>= fun _ => pure r) Q E s₃) E s₂ := by
    rw [hs o i]
    exact wpAny_operating (wpAny_mono h₂ (fun r s₃ h₃ => wpAny_bind (wpAny_letTemporaryGo (wpAny_pure h₃))) fun _ _ x => x)
  first
    | exact wpAny_pure (wpAny_bind fin)
    | exact wpAny_bind (wpAny_pure (wpAny_bind fin))
    | exact wpAny_bind fin
theorem qY {X : Cx} {pins : List (Addr × Obj)} {σ : St} {H : Hp} {s : Shared} {a : Addr} {y : V} {o : Option V} (I : Inv X pins σ H s) (g : nX H a y o) : s.TypeIs (.ref a) "dict" := by
  rcases g with ⟨kvs, k, e, _, _⟩ | ⟨kvs, k, b, e, _, _, _⟩
  · obtain ⟨_, _, vs, _, dd⟩ := qC I.hok e
    exact dd.typeIs
  · obtain ⟨_, _, xs, _, dd⟩ := pY I.hok e
    exact dd.typeIs
noncomputable def BV (td ty : TE) : TE := fun σ H Q => td σ H fun x H1 => ty σ H1 fun y H2 => ∃ a v, x = .ref a /\ nX H2 a y (some v) /\ Q v H2
noncomputable def C1 (td ty tv : TE) : TS := fun D σ H => tv σ H fun v H1 => td σ H1 fun x H2 => ty σ H2 fun y H3 => ∃ a H4, x = .ref a /\ vW H3 a y v H4 /\ D.nx σ H4
section
variable {X : Cx} {o i e value : Expr} {pos pos' tpos : Pos} {td ty tv : TE}
theorem x_ (hu : X.A.units + 1 < cLine) (ho : PE X o td) (hi : PE X i ty) (hs : Ba i) : PE X (.Subscript o i pos) (BV td ty) := by
  intro pins s σ H Q I h
  refine zc PySem.F.slot_dict_getitem.lookup hs (thn (ho pins s σ H _ I h) fun u s1 ⟨x, H1, I1, rx, q1⟩ => thn (hi pins s1 σ H1 _ I1 q1) fun iv s2 ⟨y, H2, I2, ry, a, v, ex, g, q2⟩ => ?_)
  subst ex
  obtain rfl : u = Value.ref a := rx
  exact ⟨qY I2 g, tR hu I2 g ry fun w' s3 I3 rw' => ⟨v, H2, I3, rw', q2⟩⟩
theorem xV (hu : X.A.units + 1 < cLine) (ho : PE X o td) (hi : PE X i ty) (hv : PE X value tv) (hs : swapsWith value (some (.Subscript o i pos')) pos.line X.env = pure false) :
    PS X (.Assign [.Subscript o i pos'] value pos) (C1 td ty tv) := by
  intro pins s σ H D I h
  refine wpAny_Assign_Subscript (thn (hv pins s σ H _ I h) fun r s1 ⟨v, H1, I1, rv, q1⟩ => thn (ho pins s1 σ H1 _ I1 q1) fun u s2 ⟨x, H2, I2, rx, q2⟩ => thn (hi pins s2 σ H2 _ I2 q2) fun iv s3 ⟨y, H3, I3, ry, a, H4, ex, g, q3⟩ => ?_) hs
  subst ex
  obtain rfl : u = Value.ref a := rx
  exact uG hu I3 g ry rv fun s4 I4 => ⟨σ, H4, I4, q3⟩
end
theorem xf {P : Program} {w : World} {H : Hp} (h : Heap) (hb : sysModules < h.objs.size) : bc P w H (h.push { cls := .type "dict", data := .dict #[] }) h.objs.size (.dT []) :=
  ⟨Nat.zero_le _, beq_eq_false_iff_ne.mpr (Ne.symm (Nat.ne_of_lt hb)), [], .nil, _, #[], 0, Heap.get?_push_size _ rfl, ⟨rfl, rfl, rfl⟩, rfl, rfl, List.nodup_nil⟩
noncomputable def zZ : TE := fun _ H Q => ∀ p, H p = none -> Q (.ref p) (upd H p (.dT []))
section
variable {X : Cx} {pos : Pos}
theorem xx : PE X (.Dict [] [] pos) zZ := fun pins s σ H Q I h =>
  wpAny_Dict_empty ⟨.ref s.heap.objs.size, _, I.laid (a := s.heap.objs.size) (o := .dT []) (t' := s.toks) (fun _ _ q => Heap.get?_push_of_some _ q) (Nat.le_refl _) (xf s.heap I.big), rfl, h _ (I.hok.fresh (Nat.le_refl _))⟩
end
structure M2 (X : Cx) (o : Expr) (m : Str) (apos : Pos) (e f : Expr) (cpos : Pos) : Prop where
  base : attributeBase o m X.env (eval o X.env) = eval o X.env
  few : ((backTo cpos (starEach [e, f] X.env)).all (fun x => !x.1) && (backToKw cpos (keywordEach [] X.env)).all (fun x => x.1.isSome)
    && decide (([e, f] : List Expr).length + ([] : List Keyword).length + (if ([] : List Keyword).isEmpty then 0 else 1) < 30)) = true
  line : (apos.endLine == cpos.line) = true
  trees : backTo cpos (starEach [e, f] X.env) = [(false, eval e X.env), (false, eval f X.env)]
noncomputable def IsD (H : Hp) (a : Addr) : Prop := (∃ kvs, Rd H a (.dK kvs)) \/ ∃ kvs, Rd H a (.dT kvs)
theorem AU {X : Cx} {pins : List (Addr × Obj)} {σ : St} {H : Hp} {s : Shared} {a : Addr} (I : Inv X pins σ H s) (d : IsD H a) :
    s.TypeIs (.ref a) "dict" /\ (∀ b, Value.ref a = .ref b -> ∃ ob, s.heap.get? b = some ob /\ ob.dict = none) /\ (a == sysModules) = false := by
  rcases d with ⟨kvs, e⟩ | ⟨kvs, e⟩
  · obtain ⟨_, hd, vs, _, dd⟩ := qC I.hok e
    refine ⟨dd.typeIs, fun b q => ?_, hd⟩
    cases q
    obtain ⟨ob, _, _, h1, h2, _⟩ := dd
    exact ⟨ob, h1, h2.2.1⟩
  · obtain ⟨_, hd, xs, _, dd⟩ := pY I.hok e
    refine ⟨dd.typeIs, fun b q => ?_, hd⟩
    cases q
    obtain ⟨ob, _, _, h1, h2, _⟩ := dd
    exact ⟨ob, h1, h2.2.1⟩
section
variable {X : Cx} {pins : List (Addr × Obj)} {σ : St} {H : Hp} {s : Shared} {a : Addr} {y d : V} {u r : Value} {o : Option V} {A : Around} {E : Value -> Shared -> Prop}
theorem An {Q : Value -> Shared -> Prop} (hu : A.units + 1 < cLine) (I : Inv X pins σ H s) (g : nX H a y o) (ry : RelV y u) (rd : RelV d r) (h : ∀ w' s', Inv X pins σ H s' -> RelV (o.getD d) w' -> Q w' s') :
    wpAny (model X.prog X.w) A (call (.builtin "dict.get") [.ref a, u, r]) Q E s := by
  rcases g with ⟨kvs, k, e, ey, l⟩ | ⟨kvs, k, b, e, ey, eb, l⟩
  · subst ey
    obtain ⟨z, hd, vs, rel, dd⟩ := qC I.hok e
    refine call_meetsIn PySem.F.slot_dict_get dd.typeIs PySem.F.entry_dict_get (PySem.F.args_dict_get_3 _ _ _) (meets_dict_get_default (bJ X.prog X.w) a (tf ry) hd r) ⟨_, dd.mapOf, h _ _ (I.tok _) ?_⟩
    rw [l]
    exact (rel.val k).getD rd
  · subst ey
    cases (show u = Value.ref b from ry)
    obtain ⟨z, hd, xs, rel, dd⟩ := pY I.hok e
    refine call_meetsIn PySem.F.slot_dict_get dd.typeIs PySem.F.entry_dict_get (PySem.F.args_dict_get_3 _ _ _) (meetsH_dict_get_default (tupleKind (bJ X.prog X.w)) a b hd r) ⟨tupleKind_room_in1 hu, k, xs, o6 I.hok eb, dd, h _ _ (I.tok _) ?_⟩
    rw [l]
    exact (rel.val k).getD rd
end
noncomputable def By (td ty tx : TE) : TE := fun σ H Q => td σ H fun x H1 => ∃ a, x = .ref a /\ IsD H1 a /\ ty σ H1 fun y H2 => tx σ H2 fun z H3 => ∃ o, nX H3 a y o /\ Q (o.getD z) H3
section
variable {X : Cx} {o e f : Expr} {apos cpos : Pos} {td ty tx : TE}
theorem xi (hu : X.A.units + 1 < cLine) (ho : PE X o td) (he : PE X e ty) (hf : PE X f tx) (m : M2 X o "get" apos e f cpos) : PE X (.Call (.Attribute o "get" apos) [e, f] [] cpos) (By td ty tx) := by
  intro pins s σ H Q I h
  refine wpAny_Call_method m.base m.few m.line PySem.F.plainAttrs_dict PySem.F.slot_dict_get PySem.F.type_dict_get (thn (ho pins s σ H _ I h) fun u s1 ⟨x, H1, I1, rx, a, ex, d, q1⟩ => ?_)
  subst ex
  obtain rfl : u = Value.ref a := rx
  obtain ⟨t1, t2, _⟩ := AU I1 d
  refine ⟨t1, t2, ?_⟩
  rw [m.trees]
  refine Calls.callWith_builtin rfl (Calls.evalArgs_plain (Calls.spliced_cons (thn (he pins s1 σ H1 _ I1 q1) fun iv s2 ⟨y, H2, I2, ry, q2⟩ =>
    Calls.spliced_cons (thn (hf pins s2 σ H2 _ I2 q2) fun fv s3 ⟨z, H3, I3, rz, ov, g, q3⟩ => Calls.spliced_nil ?_))))
  exact An hu I3 g ry rz fun w' s4 I4 rw' => ⟨_, H3, I4, rw', q3⟩
end
end L2
namespace L2.FE
open PySem PySem.Spec PyProof.Rows
inductive D where
  | non | bl (b : Bool) | int (i : Int) | str (x : Str) | tup (ds : List D) | frl (ds : List D) | ref (n : Nat) | fn (x : Str) | edic | scr (ds : List D) | exc (c : Str) (fs : List (Str × Int))
inductive O where
  | lst (ds : List D) | set (ns : List Int) | dic (kvs : List (Key × D)) | dit (kvs : List (List Key × D))
noncomputable abbrev Hh := List O
noncomputable abbrev En := List (Option D)
structure Xc where
  cls : Str
  fs : List (Str × Int)
inductive R (β : Type) where
  | ok (b : β) (h : Hh)
  | err (x : Xc) (h : Hh)
  | bad
noncomputable def R.bind {β γ : Type} (r : R β) (f : β -> Hh -> R γ) : R γ := match r with
  | .ok b h => f b h
  | .err x h => .err x h
  | .bad => .bad
inductive Fl where
  | nx (e : En) | bk (e : En) | ct (e : En) | rt (d : D)
noncomputable abbrev ME := En -> Hh -> R D
noncomputable abbrev MT := En -> Hh -> R Bool
noncomputable abbrev MA := En -> Hh -> R (List D)
noncomputable abbrev MS := En -> Hh -> R Fl
noncomputable def Fro (K : PySem.W.Frag) (H : Hp) (p : Addr) (vs : List V) : Prop :=
  (∃ o, H p = some (.frz o (.lst vs))) \/ ∃ (o : Obj) (its : Array Value) (n : Nat), K.lookup p = some o /\ o.cls = .type "list" /\ o.dict = none /\ o.data = .seq its n /\ its.size <= sizeLine /\ Vals vs its.toList
theorem Fro.sq {K : PySem.W.Frag} {H : Hp} {p : Addr} {vs : List V} (h : Fro K H p vs) : SqL K H p vs := by
  rcases h with ⟨o, h⟩ | h
  · exact .inl (.inr ⟨o, h⟩)
  · exact .inr h
noncomputable def Fr1 (H : Hp) (p : Addr) (vs : List V) : Prop := ∃ o, H p = some (.frz o (.lst vs))
theorem Fr1.fro {K : PySem.W.Frag} {H : Hp} {p : Addr} {vs : List V} (h : Fr1 H p vs) : Fro K H p vs := .inl h
theorem Fr1.sq {K : PySem.W.Frag} {H : Hp} {p : Addr} {vs : List V} (h : Fr1 H p vs) : SqL K H p vs := let ⟨o, h⟩ := h; .inl (.inr ⟨o, h⟩)
theorem Fr1.rd {H : Hp} {p : Addr} {vs : List V} (h : Fr1 H p vs) : Rd H p (.lst vs) := .inr h
noncomputable def AtO (p : Addr) (o : Obj) : HO := .frz o (.ext fun h => h.get? p = some o)
noncomputable def XFs (H : Hp) (dc : Option Addr) (fs : List (Str × Int)) : Prop := (dc = none /\ fs = []) \/ ∃ dx od, dc = some dx /\ H dx = some (.frz od (.xd (fs.map fun x => (x.1, V.int x.2))))
mutual
inductive aB (K : PySem.W.Frag) (g : Str -> Option Addr) (α : List Addr) (H : Hp) : D -> V -> Prop where
  | non : aB K g α H .non .non
  | bl (b) : aB K g α H (.bl b) (.bl b)
  | int (i) : aB K g α H (.int i) (.int i)
  | str (x) : aB K g α H (.str x) (.str x)
  | ref {n p} : α[n]? = some p -> aB K g α H (.ref n) (.ref p)
  | tup {ds p vs} : H p = some (.tup vs) -> ar K g α H ds vs -> aB K g α H (.tup ds) (.ref p)
  | frl {ds p vs} : Fr1 H p vs -> ar K g α H ds vs -> aB K g α H (.frl ds) (.ref p)
  | scr {ds p vs} : Fro K H p vs -> ar K g α H ds vs -> aB K g α H (.scr ds) (.ref p)
  | fn {x f} : g x = some f -> aB K g α H (.fn x) (.ref f)
  | edic {p o} : H p = some (.frz o (.dK [])) -> aB K g α H .edic (.ref p)
  | exc {c C p o fs} : g c = some C -> H p = some (AtO p o) -> o.cls = .ref C -> (∃ vs, o.data = .fields vs) -> XFs H o.dict fs -> aB K g α H (.exc c fs) (.ref p)
inductive ar (K : PySem.W.Frag) (g : Str -> Option Addr) (α : List Addr) (H : Hp) : List D -> List V -> Prop where
  | nil : ar K g α H [] []
  | cons {d v ds vs} : aB K g α H d v -> ar K g α H ds vs -> ar K g α H (d :: ds) (v :: vs)
end
structure Ex0 (K : PySem.W.Frag) (α : List Addr) (H : Hp) (α' : List Addr) (H' : Hp) : Prop where
  pre : α <+: α'
  tup : ∀ (p : Addr) (xs : List V), H p = some (.tup xs) -> H' p = some (.tup xs)
  frz : ∀ (p : Addr) (o : Obj) (u : HO), H p = some (.frz o u) -> H' p = some (.frz o u)
theorem Ex0.fro {K : PySem.W.Frag} {α α' : List Addr} {H H' : Hp} (e : Ex0 K α H α' H') (p : Addr) (xs : List V) (h : Fro K H p xs) : Fro K H' p xs := by
  rcases h with ⟨o, h⟩ | h
  · exact .inl ⟨o, e.frz _ _ _ h⟩
  · exact .inr h
theorem Ex0.fr1 {K : PySem.W.Frag} {α α' : List Addr} {H H' : Hp} (e : Ex0 K α H α' H') (p : Addr) (xs : List V) (h : Fr1 H p xs) : Fr1 H' p xs := let ⟨o, h⟩ := h; ⟨o, e.frz _ _ _ h⟩
structure Ext (K : PySem.W.Frag) (α : List Addr) (H : Hp) (α' : List Addr) (H' : Hp) : Prop extends Ex0 K α H α' H' where
  keep : ∀ p o, H p = some o -> p ∉ α -> H' p = some o
  new : ∀ p, p ∈ α' -> p ∉ α -> H p = none
section
variable {K : PySem.W.Frag} {g : Str -> Option Addr} {α α' α'' : List Addr} {H H' H'' : Hp}
theorem Ex0.refl : Ex0 K α H α H := ⟨List.prefix_refl _, fun _ _ h => h, fun _ _ _ h => h⟩
theorem Ex0.trans (a : Ex0 K α H α' H') (b : Ex0 K α' H' α'' H'') : Ex0 K α H α'' H'' := ⟨a.pre.trans b.pre, fun p xs h => b.tup p xs (a.tup p xs h), fun p o u h => b.frz p o u (a.frz p o u h)⟩
theorem Ext.refl : Ext K α H α H := ⟨.refl, fun _ _ h _ => h, fun _ h n => absurd h n⟩
theorem Ext.trans (a : Ext K α H α' H') (b : Ext K α' H' α'' H'') : Ext K α H α'' H'' := ⟨a.toEx0.trans b.toEx0, fun p o h n => b.keep p o (a.keep p o h n) (fun z => by rw [a.new p z n] at h; cases h), fun p z n => by
    by_cases q : p ∈ α'
    · exact a.new p q n
    · have := b.new p z q
      cases e : H p with
      | none => rfl
      | some o => rw [a.keep p o e n] at this; cases this⟩
theorem Ex0.get (e : Ex0 K α H α' H') {n : Nat} {p : Addr} (h : α[n]? = some p) : α'[n]? = some p := by
  obtain ⟨t, rfl⟩ := e.pre
  have hl : n < α.length := by
    by_cases hl : n < α.length
    · exact hl
    · rw [List.getElem?_eq_none (by omega)] at h; cases h
  rw [List.getElem?_append_left hl]; exact h
mutual
theorem aB.ex0 (e : Ex0 K α H α' H') : ∀ {d : D} {v : V}, aB K g α H d v -> aB K g α' H' d v
  | _, _, .non => .non
  | _, _, .bl b => .bl b
  | _, _, .int i => .int i
  | _, _, .str x => .str x
  | _, _, .ref h => .ref (e.get h)
  | _, _, .tup h r => .tup (e.tup _ _ h) (ar.ex0 e r)
  | _, _, .frl h r => .frl (e.fr1 _ _ h) (ar.ex0 e r)
  | _, _, .scr h r => .scr (e.fro _ _ h) (ar.ex0 e r)
  | _, _, .fn h => .fn h
  | _, _, .edic h => .edic (e.frz _ _ _ h)
  | _, _, .exc hg h hc hd hf => .exc hg (e.frz _ _ _ h) hc hd (hf.elim .inl fun ⟨dx, od, a, b⟩ => .inr ⟨dx, od, a, e.frz _ _ _ b⟩)
theorem ar.ex0 (e : Ex0 K α H α' H') : ∀ {ds : List D} {vs : List V}, ar K g α H ds vs -> ar K g α' H' ds vs
  | _, _, .nil => .nil
  | _, _, .cons r t => .cons (aB.ex0 e r) (ar.ex0 e t)
end
theorem aB.ext (e : Ext K α H α' H') {d : D} {v : V} (r : aB K g α H d v) : aB K g α' H' d v := r.ex0 e.toEx0
theorem ar.ext (e : Ext K α H α' H') {d : List D} {v : List V} (r : ar K g α H d v) : ar K g α' H' d v := r.ex0 e.toEx0
theorem ar.length : ∀ {ds : List D} {vs : List V}, ar K g α H ds vs -> ds.length = vs.length
  | _, _, .nil => rfl
  | _, _, .cons _ t => by simp [ar.length t]
theorem ar.append : ∀ {ds es : List D} {vs us : List V}, ar K g α H ds vs -> ar K g α H es us -> ar K g α H (ds ++ es) (vs ++ us)
  | _, _, _, _, .nil, s => s
  | _, _, _, _, .cons r t, s => .cons r (ar.append t s)
theorem ar.get : ∀ {ds : List D} {vs : List V} {i : Nat} {d : D}, ar K g α H ds vs -> ds[i]? = some d -> ∃ v, vs[i]? = some v /\ aB K g α H d v
  | _, _, _, _, .nil, e => by simp at e
  | _, _, 0, _, .cons r _, e => by simp at e; subst e; exact ⟨_, rfl, r⟩
  | _, _, i + 1, d, .cons _ t, e => by
    obtain ⟨u, h1, h2⟩ := ar.get (i := i) (d := d) t (by simpa using e)
    exact ⟨u, by simpa using h1, h2⟩
theorem ar.set {d : D} {v : V} (r : aB K g α H d v) : ∀ {ds : List D} {vs : List V} (i : Nat), ar K g α H ds vs -> ar K g α H (ds.set i d) (vs.set i v)
  | _, _, _, .nil => .nil
  | _, _, 0, .cons _ t => .cons r t
  | _, _, i + 1, .cons q t => .cons q (ar.set r i t)
theorem ar.take : ∀ {ds : List D} {vs : List V} (n : Nat), ar K g α H ds vs -> ar K g α H (ds.take n) (vs.take n)
  | _, _, 0, _ => .nil
  | _, _, _ + 1, .nil => .nil
  | _, _, n + 1, .cons r t => .cons r (ar.take n t)
theorem ar.drop : ∀ {ds : List D} {vs : List V} (n : Nat), ar K g α H ds vs -> ar K g α H (ds.drop n) (vs.drop n)
  | _, _, 0, r => r
  | _, _, _ + 1, .nil => .nil
  | _, _, n + 1, .cons _ t => ar.drop n t
theorem ar.rev : ∀ {ds : List D} {vs : List V}, ar K g α H ds vs -> ar K g α H ds.reverse vs.reverse
  | _, _, .nil => .nil
  | _, _, .cons r t => by simp only [List.reverse_cons]; exact (ar.rev t).append (.cons r .nil)
theorem ar.ints (ns : List Int) : ar K g α H (ns.map D.int) (ns.map V.int) := by
  induction ns with
  | nil => exact .nil
  | cons n r ih => exact .cons (.int n) ih
theorem ar.wz : ∀ {ns : List Int} {vs : List V}, ar K g α H (ns.map D.int) vs -> vs = ns.map V.int
  | [], _, .nil => rfl
  | n :: r, _, .cons (.int _) t => by rw [ar.wz t]; rfl
theorem ar.flat {ds : List D} {vs : List V} (r : ar K g α H ds vs) : ∀ k, ar K g α H (List.replicate k ds).flatten (List.replicate k vs).flatten
  | 0 => .nil
  | k + 1 => by rw [List.replicate_succ, List.replicate_succ, List.flatten_cons, List.flatten_cons]; exact r.append (ar.flat r k)
end
noncomputable def OAt (K : PySem.W.Frag) (g : Str -> Option Addr) (α : List Addr) (H : Hp) (p : Addr) : O -> Prop
  | .lst ds => ∃ vs, H p = some (.lst vs) /\ ar K g α H ds vs
  | .set ns => H p = some (.set (fun k => ns.any (· == k)) ns.length)
  | .dic kvs => ∃ kws, H p = some (.dK kws) /\ Paired (fun (a : Key × D) (b : Key × V) => a.1 = b.1 /\ aB K g α H a.2 b.2) kvs kws
  | .dit kvs => ∃ kws, H p = some (.dT kws) /\ Paired (fun (a : List Key × D) (b : List Key × V) => a.1 = b.1 /\ aB K g α H a.2 b.2) kvs kws
structure aN (K : PySem.W.Frag) (g : Str -> Option Addr) (α : List Addr) (H : Hp) (h : Hh) : Prop where
  len : α.length = h.length
  inj : ∀ (n m : Nat) (p : Addr), α[n]? = some p -> α[m]? = some p -> n = m
  here : ∀ (n : Nat) (p : Addr) (o : O), α[n]? = some p -> h[n]? = some o -> OAt K g α H p o
section
variable {K : PySem.W.Frag} {g : Str -> Option Addr} {α α' : List Addr} {H H' : Hp} {h : Hh}
theorem Paired.CW {kvs : List (Key × D)} {kws : List (Key × V)} (e : Ex0 K α H α' H') (r : Paired (fun (a : Key × D) (b : Key × V) => a.1 = b.1 /\ aB K g α H a.2 b.2) kvs kws) :
    Paired (fun (a : Key × D) (b : Key × V) => a.1 = b.1 /\ aB K g α' H' a.2 b.2) kvs kws := L2.Paired.vE r fun _ _ q => ⟨q.1, q.2.ex0 e⟩
theorem Paired.CP {kvs : List (List Key × D)} {kws : List (List Key × V)} (e : Ex0 K α H α' H') (r : Paired (fun (a : List Key × D) (b : List Key × V) => a.1 = b.1 /\ aB K g α H a.2 b.2) kvs kws) :
    Paired (fun (a : List Key × D) (b : List Key × V) => a.1 = b.1 /\ aB K g α' H' a.2 b.2) kvs kws := L2.Paired.vE r fun _ _ q => ⟨q.1, q.2.ex0 e⟩
theorem OAt.isS {p : Addr} {o : O} (h : OAt K g α H p o) : ∃ u, H p = some u /\ (∀ ys, u ≠ .tup ys) /\ ∀ w ys, u ≠ .frz w ys := by
  cases o with
  | lst ds => obtain ⟨vs, e, _⟩ := h; exact ⟨_, e, fun _ z => (nomatch z), fun _ _ z => nomatch z⟩
  | set n => exact ⟨_, h, fun _ z => (nomatch z), fun _ _ z => nomatch z⟩
  | dic kvs => obtain ⟨vs, e, _⟩ := h; exact ⟨_, e, fun _ z => (nomatch z), fun _ _ z => nomatch z⟩
  | dit kvs => obtain ⟨vs, e, _⟩ := h; exact ⟨_, e, fun _ z => (nomatch z), fun _ _ z => nomatch z⟩
theorem aN.mem (r : aN K g α H h) {p : Addr} (hp : p ∈ α) : ∃ u, H p = some u /\ (∀ ys, u ≠ .tup ys) /\ ∀ w ys, u ≠ .frz w ys := by
  obtain ⟨n, hn, e⟩ := List.getElem_of_mem hp
  have hn' : n < h.length := by rw [<- r.len]; exact hn
  exact (r.here n p _ (by rw [List.getElem?_eq_getElem hn, e]) (List.getElem?_eq_getElem hn')).isS
theorem OAt.ex0 {p : Addr} {o : O} (e : Ex0 K α H α' H') (h : OAt K g α H p o) (k : ∀ u, H p = some u -> H' p = some u) : OAt K g α' H' p o := by
  cases o with
  | lst ds => obtain ⟨vs, a, r⟩ := h; exact ⟨vs, k _ a, r.ex0 e⟩
  | set n => exact k _ h
  | dic kvs => obtain ⟨kws, a, r⟩ := h; exact ⟨kws, k _ a, Paired.CW e r⟩
  | dit kvs => obtain ⟨kws, a, r⟩ := h; exact ⟨kws, k _ a, Paired.CP e r⟩
noncomputable def xy (H : Hp) (p : Addr) : Prop := H p = none \/ ∃ u, H p = some u /\ (∀ ys, u ≠ .tup ys) /\ ∀ w ys, u ≠ .frz w ys
theorem Ex0.upd {p : Addr} {o : HO} (n : xy H p) : Ex0 K α H α (upd H p o) := by
  have ne : ∀ q u, H q = some u -> ((∃ ys, u = .tup ys) \/ ∃ w ys, u = .frz w ys) -> q ≠ p := by
    rintro q u e z rfl
    rcases n with n | ⟨u', e', n1, n2⟩
    · rw [e] at n; cases n
    · rw [e] at e'; cases e'
      rcases z with ⟨ys, z⟩ | ⟨w, ys, z⟩
      · exact n1 _ z
      · exact n2 _ _ z
  refine ⟨List.prefix_refl _, fun q xs h => ?_, fun q o u h => ?_⟩
  · rw [aE (ne q _ h (.inl ⟨_, rfl⟩))]; exact h
  · rw [aE (ne q _ h (.inr ⟨_, _, rfl⟩))]; exact h
theorem Ex0.more (e : Ex0 K α H α H') (l : List Addr) : Ex0 K α H (α ++ l) H' := ⟨List.prefix_append _ _, e.tup, e.frz⟩
theorem Ext.fresh {p : Addr} {o : HO} (n : H p = none) : Ext K α H α (upd H p o) := ⟨Ex0.upd (.inl n), fun q u h _ => by rw [aE (bD h n)]; exact h, fun _ z m => absurd z m⟩
theorem Ext.push {p : Addr} {o : HO} (n : H p = none) : Ext K α H (α ++ [p]) (upd H p o) := ⟨(Ex0.upd (.inl n)).more _, fun q u h _ => by rw [aE (bD h n)]; exact h, fun q z m => by
  rcases List.mem_append.mp z with z | z
  · exact absurd z m
  · rw [List.mem_singleton.mp z]; exact n⟩
theorem aN.off {p : Addr} {o : HO} (r : aN K g α H h) (n : xy H p) (m : p ∉ α) : aN K g α (upd H p o) h := by
  refine ⟨r.len, r.inj, fun k q u a b => (r.here k q u a b).ex0 (Ex0.upd n) fun w e => ?_⟩
  rw [aE]; exact e
  rintro rfl; exact m (List.mem_of_getElem? a)
theorem aN.free (r : aN K g α H h) {p : Addr} (n : H p = none) : p ∉ α := fun z => by
  obtain ⟨u, e, _⟩ := r.mem z
  rw [n] at e; cases e
theorem aN.grow {p : Addr} {o : HO} (r : aN K g α H h) (n : H p = none) : aN K g α (upd H p o) h := r.off (.inl n) (r.free n)
theorem aN.adopt {p : Addr} {u : O} (r : aN K g α H h) (n : p ∉ α) (a : OAt K g (α ++ [p]) H p u) : aN K g (α ++ [p]) H (h ++ [u]) := by
  have old : ∀ {m : Nat} {q : Addr}, (α ++ [p])[m]? = some q -> (α[m]? = some q) \/ (m = α.length /\ q = p) := by
    intro m q h1
    by_cases hm : m < α.length
    · rw [List.getElem?_append_left hm] at h1
      exact .inl h1
    · have hl : m < (α ++ [p]).length := by
        by_cases hl : m < (α ++ [p]).length
        · exact hl
        · rw [List.getElem?_eq_none (by omega)] at h1; cases h1
      have e : m = α.length := by simp at hl; omega
      subst e
      rw [List.getElem?_append_right (Nat.le_refl _)] at h1
      simp at h1
      exact .inr ⟨rfl, h1.symm⟩
  refine ⟨by simp [r.len], fun m k q h1 h2 => ?_, fun m q w h1 h2 => ?_⟩
  · rcases old h1 with a1 | ⟨e1, e2⟩
    · rcases old h2 with a2 | ⟨e3, e4⟩
      · exact r.inj m k q a1 a2
      · rw [e4] at a1; exact absurd (List.mem_of_getElem? a1) n
    · rcases old h2 with a2 | ⟨e3, e4⟩
      · rw [e2] at a2; exact absurd (List.mem_of_getElem? a2) n
      · rw [e1, e3]
  · rcases old h1 with a1 | ⟨e1, e2⟩
    · have hm : m < α.length := by
        by_cases hl : m < α.length
        · exact hl
        · rw [List.getElem?_eq_none (by omega)] at a1; cases a1
      rw [List.getElem?_append_left (by rw [<- r.len]; exact hm)] at h2
      exact (r.here m q w a1 h2).ex0 (Ex0.refl.more _) fun _ z => z
    · subst e1 e2
      rw [r.len, List.getElem?_append_right (Nat.le_refl _)] at h2
      simp at h2
      subst h2
      exact a
theorem aN.push {p : Addr} {o : HO} {u : O} (r : aN K g α H h) (n : H p = none) (a : OAt K g (α ++ [p]) (upd H p o) p u) : aN K g (α ++ [p]) (upd H p o) (h ++ [u]) := (r.grow n).adopt (r.free n) a
theorem Ext.write {p : Addr} {o : HO} {k : Nat} (r : aN K g α H h) (hk : α[k]? = some p) : Ext K α H α (upd H p o) :=
  ⟨Ex0.upd (.inr (r.mem (List.mem_of_getElem? hk))), fun q u h m => by
    rw [aE]; exact h
    rintro rfl; exact m (List.mem_of_getElem? hk), fun _ z m => absurd z m⟩
theorem aN.write {p : Addr} {o : HO} {u' : O} {k : Nat} (r : aN K g α H h) (hk : α[k]? = some p) (a : OAt K g α (upd H p o) p u') : aN K g α (upd H p o) (h.set k u') := by
  have x : Ext K α H α (upd H p o) := Ext.write r hk
  refine ⟨by simp [r.len], r.inj, fun m q w h1 h2 => ?_⟩
  rw [List.getElem?_set] at h2
  by_cases hm : k = m
  · subst hm
    rw [if_pos rfl] at h2
    split at h2
    · cases h2; rw [h1] at hk; cases hk; exact a
    · cases h2
  · rw [if_neg hm] at h2
    refine (r.here m q w h1 h2).ex0 x.toEx0 fun z e => ?_
    rw [aE]; exact e
    rintro rfl; exact hm (r.inj _ _ _ hk h1)
end
noncomputable abbrev GG := Str -> Option Addr
noncomputable abbrev EE := List Addr -> Hp -> Xc -> Prop
structure iS (K : PySem.W.Frag) (g : GG) (α : List Addr) (H : Hp) (env : En) (σ : St) : Prop where
  len : env.length = σ.length
  vars : ∀ (i : Nat) (d : D), env[i]? = some (some d) -> ∃ v, σ[i]? = some (some v) /\ aB K g α H d v
structure cz (K : PySem.W.Frag) (g : GG) (α : List Addr) (H : Hp) (env : En) (σ : St) (h : Hh) : Prop where
  heap : aN K g α H h
  vs : iS K g α H env σ
noncomputable def WQ (K : PySem.W.Frag) (g : GG) (ε : EE) (α : List Addr) (H : Hp) {β : Type} (r : R β) (k : β -> Hh -> Prop) : Prop := match r with
  | .ok b h => k b h
  | .err x h => ∀ α' H', Ext K α H α' H' -> aN K g α' H' h -> ε α' H' x
  | .bad => False
section
variable {K : PySem.W.Frag} {g : GG} {ε : EE} {α α' : List Addr} {H H' : Hp} {β γ : Type}
theorem WQ.bind {r : R β} {f : β -> Hh -> R γ} {k : γ -> Hh -> Prop} (w : WQ K g ε α H (r.bind f) k) : WQ K g ε α H r fun b h => WQ K g ε α H (f b h) k := by
  cases r <;> exact w
theorem WQ.ext {r : R β} {k : β -> Hh -> Prop} (e : Ext K α H α' H') (w : WQ K g ε α H r k) : WQ K g ε α' H' r k := by
  cases r with
  | ok b h => exact w
  | err x h => exact fun a b c d => w a b (e.trans c) d
  | bad => exact w
theorem WQ.mono {r : R β} {k k' : β -> Hh -> Prop} (w : WQ K g ε α H r k) (m : ∀ b h, r = .ok b h -> k b h -> k' b h) : WQ K g ε α H r k' := by
  cases r with
  | ok b h => exact m b h rfl w
  | err x h => exact w
  | bad => exact w
theorem iS.ext {env : En} {σ : St} (v : iS K g α H env σ) (e : Ext K α H α' H') : iS K g α' H' env σ :=
  ⟨v.len, fun i d h => let ⟨x, a, b⟩ := v.vars i d h; ⟨x, a, b.ext e⟩⟩
theorem cz.ext {env : En} {σ : St} {h h' : Hh} (v : cz K g α H env σ h) (e : Ext K α H α' H') (r : aN K g α' H' h') : cz K g α' H' env σ h' := ⟨r, v.vs.ext e⟩
theorem iS.set {env : En} {σ : St} {i : Nat} {d : D} {x : V} (v : iS K g α H env σ) (r : aB K g α H d x) : iS K g α H (env.set i (some d)) (σ.set i (some x)) := by
  refine ⟨by simp [v.len], fun j e h => ?_⟩
  rw [List.getElem?_set] at h ⊢
  by_cases hj : i = j
  · subst hj
    rw [if_pos rfl] at h ⊢
    have hl := v.len
    split at h
    · rw [if_pos (by omega)]
      cases h
      exact ⟨x, rfl, r⟩
    · cases h
  · rw [if_neg hj] at h ⊢
    exact v.vars j e h
end
noncomputable def aF (K : PySem.W.Frag) (g : GG) (α : List Addr) (H : Hp) (Q : VK) : D -> Hh -> Prop := fun d h => ∀ v H' α', Ext K α H α' H' -> aN K g α' H' h -> aB K g α' H' d v -> Q v H'
noncomputable def j8 (K : PySem.W.Frag) (g : GG) (α : List Addr) (H : Hp) (Q : Bool -> Hp -> Prop) : Bool -> Hh -> Prop := fun b h => ∀ H' α', Ext K α H α' H' -> aN K g α' H' h -> Q b H'
noncomputable def BH (K : PySem.W.Frag) (g : GG) (α : List Addr) (H : Hp) (Q : List V -> Hp -> Prop) : List D -> Hh -> Prop := fun ds h => ∀ vs H' α', Ext K α H α' H' -> aN K g α' H' h -> ar K g α' H' ds vs -> Q vs H'
noncomputable def bP (K : PySem.W.Frag) (g : GG) (α : List Addr) (H : Hp) (E : Ends) : Fl -> Hh -> Prop := fun fl h => ∀ H' α', Ext K α H α' H' -> aN K g α' H' h -> match fl with
  | .nx e => ∀ σ, iS K g α' H' e σ -> E.nx σ H'
  | .bk e => ∀ σ, iS K g α' H' e σ -> E.bk σ H'
  | .ct e => ∀ σ, iS K g α' H' e σ -> E.ct σ H'
  | .rt d => ∀ v, aB K g α' H' d v -> E.rt v H'
noncomputable def tM (K : PySem.W.Frag) (g : GG) (ε : EE) (m : ME) : TE := fun σ H Q => ∃ α env h, cz K g α H env σ h /\ WQ K g ε α H (m env h) (aF K g α H Q)
noncomputable def tMT (K : PySem.W.Frag) (g : GG) (ε : EE) (m : MT) : TT := fun σ H Q => ∃ α env h, cz K g α H env σ h /\ WQ K g ε α H (m env h) (j8 K g α H Q)
noncomputable def tMA (K : PySem.W.Frag) (g : GG) (ε : EE) (m : MA) : TA := fun σ H Q => ∃ α env h, cz K g α H env σ h /\ WQ K g ε α H (m env h) (BH K g α H Q)
noncomputable def tMS (K : PySem.W.Frag) (g : GG) (ε : EE) (m : MS) : TS := fun E σ H => ∃ α env h, cz K g α H env σ h /\ WQ K g ε α H (m env h) (bP K g α H E)
section
variable {K : PySem.W.Frag} {g : GG} {ε : EE} {α α' : List Addr} {H H' : Hp} {env : En} {σ : St} {h : Hh}
theorem aF.ext {Q : VK} {d : D} (e : Ext K α H α' H') (p : aF K g α H Q d h) : aF K g α' H' Q d h := fun v H2 α2 e2 r rd => p v H2 α2 (e.trans e2) r rd
theorem j8.ext {Q : Bool -> Hp -> Prop} {d : Bool} (e : Ext K α H α' H') (p : j8 K g α H Q d h) : j8 K g α' H' Q d h := fun H2 α2 e2 r => p H2 α2 (e.trans e2) r
theorem bP.ext {E : Ends} {d : Fl} (e : Ext K α H α' H') (p : bP K g α H E d h) : bP K g α' H' E d h := fun H2 α2 e2 r => p H2 α2 (e.trans e2) r
theorem WQ.post {Q : VK} {r : R D} (e : Ext K α H α' H') (w : WQ K g ε α H r (aF K g α H Q)) : WQ K g ε α' H' r (aF K g α' H' Q) := (w.ext e).mono fun _ _ _ p => p.ext e
theorem WQ.BN {Q : Bool -> Hp -> Prop} {r : R Bool} (e : Ext K α H α' H') (w : WQ K g ε α H r (j8 K g α H Q)) : WQ K g ε α' H' r (j8 K g α' H' Q) := (w.ext e).mono fun _ _ _ p => p.ext e
theorem WQ.sX {E : Ends} {r : R Fl} (e : Ext K α H α' H') (w : WQ K g ε α H r (bP K g α H E)) : WQ K g ε α' H' r (bP K g α' H' E) := (w.ext e).mono fun _ _ _ p => p.ext e
theorem tM.use {m : ME} {Q : VK} {k : D -> Hh -> Prop} (s : cz K g α H env σ h) (w : WQ K g ε α H (m env h) k)
    (q : ∀ d h' v H' α', Ext K α H α' H' -> cz K g α' H' env σ h' -> aB K g α' H' d v -> k d h' -> Q v H') : tM K g ε m σ H Q :=
  ⟨α, env, h, s, w.mono fun d h' _ kk v H' α' e r rd => q d h' v H' α' e (s.ext e r) rd kk⟩
theorem tMT.use {m : MT} {Q : Bool -> Hp -> Prop} {k : Bool -> Hh -> Prop} (s : cz K g α H env σ h) (w : WQ K g ε α H (m env h) k)
    (q : ∀ d h' H' α', Ext K α H α' H' -> cz K g α' H' env σ h' -> k d h' -> Q d H') : tMT K g ε m σ H Q :=
  ⟨α, env, h, s, w.mono fun d h' _ kk H' α' e r => q d h' H' α' e (s.ext e r) kk⟩
theorem tMA.use {m : MA} {Q : List V -> Hp -> Prop} {k : List D -> Hh -> Prop} (s : cz K g α H env σ h) (w : WQ K g ε α H (m env h) k)
    (q : ∀ d h' v H' α', Ext K α H α' H' -> cz K g α' H' env σ h' -> ar K g α' H' d v -> k d h' -> Q v H') : tMA K g ε m σ H Q :=
  ⟨α, env, h, s, w.mono fun d h' _ kk v H' α' e r rd => q d h' v H' α' e (s.ext e r) rd kk⟩
theorem aF.now {Q : VK} {d : D} {v : V} (p : aF K g α H Q d h) (r : aN K g α H h) (rd : aB K g α H d v) : Q v H := p v H α Ext.refl r rd
end
theorem PE.imp {X : Cx} {e : Expr} {t t' : TE} (h : PE X e t) (i : ∀ σ H Q, t' σ H Q -> t σ H Q) : PE X e t' := fun pins s σ H Q I w => h pins s σ H Q I (i σ H Q w)
theorem PT.imp {X : Cx} {e : Expr} {t t' : TT} (h : PT X e t) (i : ∀ σ H Q, t' σ H Q -> t σ H Q) : PT X e t' := fun pins s σ H Q I w => h pins s σ H Q I (i σ H Q w)
theorem PW.imp {X : Cx} {e : Expr} {t t' : TT} (h : PW X e t) (i : ∀ σ H Q, t' σ H Q -> t σ H Q) : PW X e t' := fun wh pins s σ H Q I w => h wh pins s σ H Q I (i σ H Q w)
theorem PA.imp {X : Cx} {e : List Expr} {t t' : TA} (h : PA X e t) (i : ∀ σ H Q, t' σ H Q -> t σ H Q) : PA X e t' := fun p pins s σ H Q I w => h p pins s σ H Q I (i σ H Q w)
theorem PS.imp {X : Cx} {e : Stmt} {t t' : TS} (h : PS X e t) (i : ∀ σ H Q, t' σ H Q -> t σ H Q) : PS X e t' := fun pins s σ H Q I w => h pins s σ H Q I (i Q σ H w)
theorem PSs.imp {X : Cx} {e : List Stmt} {t t' : TS} (h : PSs X e t) (i : ∀ σ H Q, t' σ H Q -> t σ H Q) : PSs X e t' := fun pins s σ H Q I w => h pins s σ H Q I (i Q σ H w)
noncomputable def af (i : Nat) : ME := fun env h => match env[i]? with
  | some (some d) => .ok d h
  | _ => .bad
noncomputable def cC (d : D) : ME := fun _ h => .ok d h
noncomputable def ao (f : D -> D -> Hh -> R D) (a b : ME) : ME := fun env h => (a env h).bind fun x h1 => (b env h1).bind fun y h2 => f x y h2
noncomputable def cUn (f : D -> Hh -> R D) (a : ME) : ME := fun env h => (a env h).bind fun x h1 => f x h1
noncomputable def aq : MA := fun _ h => .ok [] h
noncomputable def ae (a : ME) (r : MA) : MA := fun env h => (a env h).bind fun x h1 => (r env h1).bind fun xs h2 => .ok (x :: xs) h2
noncomputable def aj (f : List D -> Hh -> R D) (a : MA) : ME := fun env h => (a env h).bind fun xs h1 => f xs h1
noncomputable def aO (f : D -> Hh -> R Bool) (a : ME) : MT := fun env h => (a env h).bind fun x h1 => f x h1
noncomputable def dX (a : MT) : MT := fun env h => (a env h).bind fun b h1 => .ok (!b) h1
noncomputable def ny (a b : MT) : MT := fun env h => (a env h).bind fun x h1 => if x = true then b env h1 else .ok false h1
noncomputable def oM (a b : MT) : MT := fun env h => (a env h).bind fun x h1 => if x = true then .ok true h1 else b env h1
noncomputable def cIf (c : MT) (a b : ME) : ME := fun env h => (c env h).bind fun x h1 => if x = true then a env h1 else b env h1
noncomputable def asB : D -> Hh -> R Bool
  | .bl b, h => .ok b h
  | _, _ => .bad
noncomputable def tm (a b : ME) : ME := fun env h => (a env h).bind fun x h1 => (asB x h1).bind fun k h2 => if k = true then b env h2 else .ok (.bl false) h2
noncomputable def vD (a : ME) : ME := fun env h => (a env h).bind fun x h1 => (asB x h1).bind fun k h2 => .ok (.bl (!k)) h2
noncomputable def gO (f f' : D -> D -> Hh -> R D) (a b c : ME) : ME := fun env h => (a env h).bind fun x h1 => (b env h1).bind fun y h2 => (f x y h2).bind fun z h3 => (asB z h3).bind fun k h4 =>
  if k = true then (c env h4).bind fun w h5 => f' y w h5 else .ok (.bl false) h4
noncomputable def de (K : PySem.W.Frag) (g : GG) (ε : EE) (f : D -> D -> Hh -> R D) (r : R2) : Prop :=
  ∀ (α : List Addr) (H : Hp) (h : Hh) (a b : D) (x y : V) (Q : VK), aN K g α H h -> aB K g α H a x -> aB K g α H b y -> WQ K g ε α H (f a b h) (aF K g α H Q) -> r x y H Q
noncomputable def Cj (K : PySem.W.Frag) (g : GG) (ε : EE) (f : D -> Hh -> R Bool) (r : V -> Hp -> (Bool -> Hp -> Prop) -> Prop) : Prop :=
  ∀ (α : List Addr) (H : Hp) (h : Hh) (a : D) (x : V) (Q : Bool -> Hp -> Prop), aN K g α H h -> aB K g α H a x -> WQ K g ε α H (f a h) (j8 K g α H Q) -> r x H Q
noncomputable def kj (K : PySem.W.Frag) (g : GG) (ε : EE) (f : List D -> Hh -> R D) (r : List V -> Hp -> VK -> Prop) : Prop :=
  ∀ (α : List Addr) (H : Hp) (h : Hh) (a : List D) (x : List V) (Q : VK), aN K g α H h -> ar K g α H a x -> WQ K g ε α H (f a h) (aF K g α H Q) -> r x H Q
noncomputable def C3 (K : PySem.W.Frag) (g : GG) (ε : EE) (f : D -> List D -> Hh -> R D) (r : V -> List V -> Hp -> VK -> Prop) : Prop :=
  ∀ (α : List Addr) (H : Hp) (h : Hh) (o : D) (a : List D) (y : V) (x : List V) (Q : VK), aN K g α H h -> aB K g α H o y -> ar K g α H a x -> WQ K g ε α H (f o a h) (aF K g α H Q) -> r y x H Q
section
variable {X : Cx} {g : GG} {ε : EE} {a b c : Expr} {ma mb mc : ME} {pos : Pos}
theorem aa (i : Nat) {x : Str} {pos : Pos} (hN : X.N[i]? = some x := by rfl) (hv : Vis X.env.scope x := by first | exact Or.inl rfl | exact Or.inr (Or.inl rfl) | exact Or.inr (Or.inr rfl)) (hd : (x == ("__debug__" : Str)) = false := by decide)
    (hcd : (x == ("__classdict__" : Str)) = false := by decide) : PE X (.Name x pos) (tM X.K g ε (af i)) := by
  refine PE.imp (Bn hN hv hd hcd) fun σ H Q ⟨α, env, h, s, w⟩ => ?_
  unfold af at w
  cases e : env[i]? with
  | none => rw [e] at w; exact w.elim
  | some d =>
    cases d with
    | none => rw [e] at w; exact w.elim
    | some d =>
      rw [e] at w
      obtain ⟨v, hv, rd⟩ := s.vs.vars i d e
      exact ⟨v, hv, aF.now w s.heap rd⟩
theorem wL {v : V} {d : D} {Q : VK} {σ : St} {H : Hp} (rd : ∀ α, aB X.K g α H d v) (t : tM X.K g ε (cC d) σ H Q) : tC v σ H Q := by
  obtain ⟨α, env, h, s, w⟩ := t
  exact aF.now w s.heap (rd α)
theorem av {i j pos} : PE X (.Constant (.int i) j pos) (tM X.K g ε (cC (.int i))) := PE.imp vk fun _ _ _ t => wL (fun _ => .int i) t
theorem i7 {i j pos} : PE X (.Constant (.bool i) j pos) (tM X.K g ε (cC (.bl i))) := PE.imp BZ fun _ _ _ t => wL (fun _ => .bl i) t
theorem du {x : Str} {i : Int} {t : Tok} {pos : Pos} (hg : Gl X x) (hm : X.mg x = some (.int i t)) (hd : (x == ("__debug__" : Str)) = false := by decide) : PE X (.Name x pos) (tM X.K g ε (cC (.int i))) :=
  PE.imp (yV (v := .int i) hg hm ⟨t, rfl⟩ hd) fun _ _ _ t => wL (fun _ => .int i) t
theorem n4 {f : D -> D -> Hh -> R D} {r : R2} {K : PySem.W.Frag} (im : de K g ε f r) {σ : St} {H : Hp} {Q : VK} (t : tM K g ε (ao f ma mb) σ H Q) : tOp r (tM K g ε ma) (tM K g ε mb) σ H Q := by
  obtain ⟨α, env, h, s, w⟩ := t
  refine tM.use s w.bind fun d1 h1 v1 H1 α1 e1 s1 r1 w1 => ?_
  refine tM.use s1 (w1.ext e1).bind fun d2 h2 v2 H2 α2 e2 s2 r2 w2 => ?_
  exact im α2 H2 h2 d1 d2 v1 v2 Q s2.heap (r1.ext e2) r2 ((w2.ext e2).mono fun _ _ _ p => p.ext (e1.trans e2))
theorem ay {op : Operator} {r : R2} {f : D -> D -> Hh -> R D} (ho : OpR X (binaryOp op) r) (im : de X.K g ε f r) (ha : PE X a (tM X.K g ε ma)) (hb : PE X b (tM X.K g ε mb)) : PE X (.BinOp a op b pos) (tM X.K g ε (ao f ma mb)) :=
  PE.imp (Cd ho ha hb) fun _ _ _ t => n4 im t
theorem wg {op : CmpOp} {r : R2} {f : D -> D -> Hh -> R D} (ho : OpR X (compareOp op) r) (im : de X.K g ε f r) (ha : PE X a (tM X.K g ε ma)) (hb : PE X b (tM X.K g ε mb)) (hm : behindInMarks op b = false) : PE X (.Compare a [op] [b] pos) (tM X.K g ε (ao f ma mb)) :=
  PE.imp (zk ho ha hb hm) fun _ _ _ t => n4 im t
theorem qR {K : PySem.W.Frag} {m : ME} {t : TE} (ht : ∀ σ H Q, tM K g ε m σ H Q -> t σ H Q) {σ : St} {H : Hp} {Q : Bool -> Hp -> Prop} (w : tMT K g ε (aO asB m) σ H Q) : xq t σ H Q := by
  obtain ⟨α, env, h, s, w⟩ := w
  refine ht _ _ _ (tM.use s w.bind fun d1 h1 v1 H1 α1 e1 s1 r1 w1 => ?_)
  unfold asB at w1
  cases r1 with
  | bl k => exact ⟨k, rfl, w1 H1 α1 e1 s1.heap⟩
  | _ => exact w1.elim
theorem cO {op : CmpOp} {r : R2} {f : D -> D -> Hh -> R D} (ho : OpR X (compareOp op) r) (im : de X.K g ε f r) (ha : PE X a (tM X.K g ε ma)) (hb : PE X b (tM X.K g ε mb)) (hm : behindInMarks op b = false) : PT X (.Compare a [op] [b] pos) (tMT X.K g ε (aO asB (ao f ma mb))) :=
  PT.imp (zt ho ha hb hm) fun _ _ _ t => qR (fun _ _ _ u => n4 im u) t
theorem nq {f f' : D -> D -> Hh -> R D} {r r' : R2} {K : PySem.W.Frag} (im : de K g ε f r) (im' : de K g ε f' r') {σ : St} {H : Hp} {Q : VK} (t : tM K g ε (gO f f' ma mb mc) σ H Q) : sk r r' (tM K g ε ma) (tM K g ε mb) (tM K g ε mc) σ H Q := by
  obtain ⟨α, env, h, s, w⟩ := t
  refine tM.use s w.bind fun d1 h1 v1 H1 α1 e1 s1 r1 w1 => ?_
  refine tM.use s1 (w1.ext e1).bind fun d2 h2 v2 H2 α2 e2 s2 r2 w2 => ?_
  refine im α2 H2 h2 d1 d2 v1 v2 _ s2.heap (r1.ext e2) r2 ((w2.ext e2).bind.mono fun z h3 _ w3 v3 H3 α3 e3 hr3 r3 => ?_)
  have w4 := w3.bind
  unfold asB at w4
  cases r3 with
  | bl k =>
    refine ⟨k, rfl, ?_⟩
    have s3 := s2.ext e3 hr3
    cases k with
    | true =>
      have w5 : WQ K g ε α2 H2 ((mc env h3).bind fun w h5 => f' d2 w h5) _ := w4
      rw [if_pos rfl]
      refine tM.use s3 (w5.ext e3).bind fun d4 h4 v4 H4 α4 e4 s4 r4 w6 => ?_
      exact im' α4 H4 h4 d2 d4 v2 v4 Q s4.heap (r2.ext (e3.trans e4)) r4 ((w6.ext e4).mono fun _ _ _ p => p.ext (e1.trans (e2.trans (e3.trans e4))))
    | false =>
      rw [if_neg Bool.false_ne_true]
      have w5 : aF K g α H Q (.bl false) h3 := w4
      exact w5 _ H3 α3 (e1.trans (e2.trans e3)) s3.heap (.bl false)
  | _ => exact w4.elim
theorem xm {op op' : CmpOp} {r r' : R2} {f f' : D -> D -> Hh -> R D} (ho : OpR X (compareOp op) r) (ho' : OpR X (compareOp op') r') (im : de X.K g ε f r) (im' : de X.K g ε f' r') (ha : PE X a (tM X.K g ε ma)) (hb : PE X b (tM X.K g ε mb)) (hc : PE X c (tM X.K g ε mc))
    (hm : lastMarks [op, op'] [b, c] = false := by with_unfolding_all rfl) : PE X (.Compare a [op, op'] [b, c] pos) (tM X.K g ε (gO f f' ma mb mc)) := PE.imp (vh ho ho' ha hb hc hm) fun _ _ _ t => nq im im' t
theorem qr {op op' : CmpOp} {r r' : R2} {f f' : D -> D -> Hh -> R D} (ho : OpR X (compareOp op) r) (ho' : OpR X (compareOp op') r') (im : de X.K g ε f r) (im' : de X.K g ε f' r') (ha : PE X a (tM X.K g ε ma)) (hb : PE X b (tM X.K g ε mb)) (hc : PE X c (tM X.K g ε mc))
    (hm : lastMarks [op, op'] [b, c] = false := by with_unfolding_all rfl) : PT X (.Compare a [op, op'] [b, c] pos) (tMT X.K g ε (aO asB (gO f f' ma mb mc))) := PT.imp (vZ ho ho' ha hb hc hm) fun _ _ _ t => qR (fun _ _ _ u => nq im im' u) t
theorem eF {r : R2} {f : D -> D -> Hh -> R D} (hr : IxR X r) (im : de X.K g ε f r) (ha : PE X a (tM X.K g ε ma)) (hb : PE X b (tM X.K g ε mb)) (hs : sY b) : PE X (.Subscript a b pos) (tM X.K g ε (ao f ma mb)) :=
  PE.imp (BJ hr ha hb hs) fun _ _ _ t => n4 im t
theorem eA {f : D -> Hh -> R Bool} (im : Cj X.K g ε f (fun x H Q => ∃ k, yD X.K x H k /\ Q k H)) (ha : PE X a (tM X.K g ε ma)) (he : ∀ whole, isTrue a X.env whole = (do let v ← whole; standAt a.pos; holding [v] (truthy v))) : PT X a (tMT X.K g ε (aO f ma)) :=
  PT.imp (xj ha he) fun σ H Q ⟨α, env, h, s, w⟩ => tM.use s w.bind fun d1 h1 v1 H1 α1 e1 s1 r1 w1 => im α1 H1 h1 d1 v1 Q s1.heap r1 (w1.BN e1)
theorem f6 {mt : MT} (ha : PT X a (tMT X.K g ε mt)) : PT X (.UnaryOp .Not a pos) (tMT X.K g ε (dX mt)) :=
  PT.imp (AH ha) fun σ H Q ⟨α, env, h, s, w⟩ => tMT.use s w.bind fun d1 h1 H1 α1 e1 s1 w1 => w1 H1 α1 e1 s1.heap
end
section
variable {X : Cx} {g : GG} {ε : EE} {a b c e : Expr} {es : List Expr} {rest : List Expr} {ma mb mc me : ME} {mt mu : MT} {pos : Pos}
theorem sx (ha : PT X a (tMT X.K g ε mt)) : PW X (.BoolOp .And [a] pos) (tMT X.K g ε mt) := pw_and1 ha
theorem oI (ha : PT X a (tMT X.K g ε mt)) : PW X (.BoolOp .Or [a] pos) (tMT X.K g ε mt) := pw_or1 ha
theorem vQ (ha : PT X a (tMT X.K g ε mt)) (hb : PW X (.BoolOp .And (b :: rest) pos) (tMT X.K g ε mu)) : PW X (.BoolOp .And (a :: b :: rest) pos) (tMT X.K g ε (ny mt mu)) :=
  PW.imp (pw_and ha hb) fun σ H Q ⟨α, env, h, s, w⟩ => tMT.use s w.bind fun d1 h1 H1 α1 e1 s1 w1 => by
    cases d1 with
    | true => rw [if_pos rfl] at w1 ⊢; exact tMT.use s1 (w1.ext e1) fun d2 h2 H2 α2 e2 s2 w2 => w2 H2 α2 (e1.trans e2) s2.heap
    | false => rw [if_neg Bool.false_ne_true] at w1 ⊢; exact w1 H1 α1 e1 s1.heap
theorem tE (ha : PT X a (tMT X.K g ε mt)) (hb : PW X (.BoolOp .Or (b :: rest) pos) (tMT X.K g ε mu)) : PW X (.BoolOp .Or (a :: b :: rest) pos) (tMT X.K g ε (oM mt mu)) :=
  PW.imp (pw_or ha hb) fun σ H Q ⟨α, env, h, s, w⟩ => tMT.use s w.bind fun d1 h1 H1 α1 e1 s1 w1 => by
    cases d1 with
    | true => rw [if_pos rfl] at w1 ⊢; exact w1 H1 α1 e1 s1.heap
    | false => rw [if_neg Bool.false_ne_true] at w1 ⊢; exact tMT.use s1 (w1.ext e1) fun d2 h2 H2 α2 e2 s2 w2 => w2 H2 α2 (e1.trans e2) s2.heap
theorem wB (hc : PT X c (tMT X.K g ε mt)) (ha : PE X a (tM X.K g ε ma)) (hb : PE X b (tM X.K g ε mb)) : PE X (.IfExp c a b pos) (tM X.K g ε (cIf mt ma mb)) :=
  PE.imp (xn hc ha hb) fun σ H Q ⟨α, env, h, s, w⟩ => tMT.use s w.bind fun d1 h1 H1 α1 e1 s1 w1 => by
    cases d1 with
    | true => rw [if_pos rfl] at w1 ⊢; exact tM.use s1 (w1.ext e1) fun d2 h2 v2 H2 α2 e2 s2 r2 w2 => w2 v2 H2 α2 (e1.trans e2) s2.heap r2
    | false => rw [if_neg Bool.false_ne_true] at w1 ⊢; exact tM.use s1 (w1.ext e1) fun d2 h2 v2 H2 α2 e2 s2 r2 w2 => w2 v2 H2 α2 (e1.trans e2) s2.heap r2
theorem vM {op} (h : PE X a (tM X.K g ε ma)) : PE X (.BoolOp op [a] pos) (tM X.K g ε ma) := AZ h
theorem vX {K : PySem.W.Frag} {α : List Addr} {H H1 : Hp} {α1 : List Addr} {d : D} {v : V} {h : Hh} {β : Type} {f : Bool -> Hh -> R β} {k : β -> Hh -> Prop} (r : aB K g α1 H1 d v) (w : WQ K g ε α H ((asB d h).bind f) k) : ∃ b, v = .bl b /\ d = .bl b /\ WQ K g ε α H (f b h) k := by
  cases r with
  | bl b => exact ⟨b, rfl, rfl, w⟩
  | _ => exact w.elim
theorem wZ (ha : PE X a (tM X.K g ε ma)) (hb : PE X (.BoolOp .And (b :: rest) pos) (tM X.K g ε mb)) : PE X (.BoolOp .And (a :: b :: rest) pos) (tM X.K g ε (tm ma mb)) :=
  PE.imp (Al ha hb) fun σ H Q ⟨α, env, h, s, w⟩ => tM.use s w.bind fun d1 h1 v1 H1 α1 e1 s1 r1 w1 => by
    obtain ⟨k, rfl, rfl, w2⟩ := vX r1 w1
    refine ⟨k, rfl, ?_⟩
    cases k with
    | true => rw [if_pos rfl] at w2 ⊢; exact tM.use s1 (w2.ext e1) fun d2 h2 v2 H2 α2 e2 s2 r2 w2 => w2 v2 H2 α2 (e1.trans e2) s2.heap r2
    | false => rw [if_neg Bool.false_ne_true] at w2 ⊢; exact w2 _ H1 α1 e1 s1.heap (.bl false)
theorem AS (ha : PE X a (tM X.K g ε ma)) : PE X (.UnaryOp .Not a pos) (tM X.K g ε (vD ma)) :=
  PE.imp (Ak ha) fun σ H Q ⟨α, env, h, s, w⟩ => tM.use s w.bind fun d1 h1 v1 H1 α1 e1 s1 r1 w1 => by
    obtain ⟨k, rfl, rfl, w2⟩ := vX r1 w1
    exact ⟨k, rfl, w2 _ H1 α1 e1 s1.heap (.bl _)⟩
variable {mr : MA}
theorem ak : PA X [] (tMA X.K g ε aq) := PA.imp rS fun σ H Q ⟨α, env, h, s, w⟩ => w [] H α Ext.refl s.heap .nil
theorem ah (ha : PE X e (tM X.K g ε ma)) (hr : PA X es (tMA X.K g ε mr)) (hs : starEach (e :: es) X.env = (false, eval e X.env) :: starEach es X.env := by rfl) : PA X (e :: es) (tMA X.K g ε (ae ma mr)) :=
  PA.imp (kE ha hr hs) fun σ H Q ⟨α, env, h, s, w⟩ => tM.use s w.bind fun d1 h1 v1 H1 α1 e1 s1 r1 w1 => tMA.use s1 (w1.ext e1).bind fun d2 h2 v2 H2 α2 e2 s2 r2 w2 => w2 _ H2 α2 (e1.trans e2) s2.heap (.cons (r1.ext e2) r2)
noncomputable def kz : List D -> Hh -> R D := fun ds h => if ds.length <= 1000000 then .ok (.tup ds) h else .bad
theorem aF.tup {K : PySem.W.Frag} {α : List Addr} {H : Hp} {h : Hh} {ds : List D} {vs : List V} {Q : VK} {p : Addr} (w : aF K g α H Q (.tup ds) h) (r : aN K g α H h) (rd : ar K g α H ds vs) (n : H p = none) : Q (.ref p) (upd H p (.tup vs)) :=
  w _ _ α (Ext.fresh n) (r.grow n) (.tup aR (rd.ext (Ext.fresh n)))
theorem WQ.eW {K : PySem.W.Frag} {α : List Addr} {H : Hp} {β : Type} {c : Prop} [Decidable c] {r : R β} {k : β -> Hh -> Prop} (w : WQ K g ε α H (if c then r else .bad) k) : c /\ WQ K g ε α H r k := by
  by_cases h : c
  · rw [if_pos h] at w; exact ⟨h, w⟩
  · rw [if_neg h] at w; exact w.elim
theorem eU {n : Nat} (h : n <= 1000000) : n <= sizeLine := by rw [sizeLine_eq]; omega
theorem pB {x1} (ha : PA X es (tMA X.K g ε mr)) : PE X (.Tuple es x1 pos) (tM X.K g ε (aj kz mr)) :=
  PE.imp (AR ha) fun σ H Q ⟨α, env, h, s, w⟩ => tMA.use s w.bind fun d1 h1 v1 H1 α1 e1 s1 r1 w1 => by
    obtain ⟨hl, w2⟩ := WQ.eW w1
    exact ⟨eU (by rw [<- r1.length]; exact hl), fun p hp => aF.tup (aF.ext e1 w2) s1.heap r1 hp⟩
theorem wk {f : List D -> Hh -> R D} {r : List V -> Hp -> VK -> Prop} {K : PySem.W.Frag} (im : kj K g ε f r) {σ : St} {H : Hp} {Q : VK} (t : tM K g ε (aj f mr) σ H Q) : tCB r (tMA K g ε mr) σ H Q := by
  obtain ⟨α, env, h, s, w⟩ := t
  exact tMA.use s w.bind fun d1 h1 v1 H1 α1 e1 s1 r1 w1 => im α1 H1 h1 d1 v1 Q s1.heap r1 (w1.post e1)
theorem aT {id : String} {x : Str} {p : Pos} {f : List D -> Hh -> R D} {r : List V -> Hp -> VK -> Prop} (hc : bu X (.builtin id) r) (im : kj X.K g ε f r) (hg : Gl X x) (hm : X.mg x = none) (hv : bootBuiltins x = some (.builtin id)) (ha : PA X (e :: es) (tMA X.K g ε mr)) (hn : x ≠ "__name__" := by decide) (hdb : (x == ("__debug__" : Str)) = false := by decide)
    (he : starEach (e :: es) X.env = (false, eval e X.env) :: starEach es X.env := by rfl) (hpl : (backTo pos (starEach es X.env)).any (·.1) = false := by rfl) : PE X (.Call (.Name x p) (e :: es) [] pos) (tM X.K g ε (aj f mr)) :=
  PE.imp (qB hc hg hm hv ha hn hdb he hpl) fun _ _ _ t => wk im t
theorem cZ {id : String} {x : Str} {p : Pos} {f : List D -> Hh -> R D} {r : List V -> Hp -> VK -> Prop} (hc : bu X (.type id) r) (im : kj X.K g ε f r) (hg : Gl X x) (hm : X.mg x = none) (hv : bootBuiltins x = some (.type id)) (ha : PA X (e :: es) (tMA X.K g ε mr)) (hn : x ≠ "__name__" := by decide) (hdb : (x == ("__debug__" : Str)) = false := by decide)
    (he : starEach (e :: es) X.env = (false, eval e X.env) :: starEach es X.env := by rfl) (hpl : (backTo pos (starEach es X.env)).any (·.1) = false := by rfl) : PE X (.Call (.Name x p) (e :: es) [] pos) (tM X.K g ε (aj f mr)) :=
  PE.imp (uD hc hg hm hv ha hn hdb he hpl) fun _ _ _ t => wk im t
end
noncomputable def bI : MS := fun env h => .ok (.nx env) h
noncomputable def aG (a b : MS) : MS := fun env h => (a env h).bind fun fl h1 => match fl with
  | .nx e => b e h1
  | fl => .ok fl h1
noncomputable def dI (a : ME) : MS := fun env h => (a env h).bind fun _ h1 => .ok (.nx env) h1
noncomputable def bw (a : ME) : MS := fun env h => (a env h).bind fun d h1 => .ok (.rt d) h1
noncomputable def cQ (c : MT) (a b : MS) : MS := fun env h => (c env h).bind fun x h1 => if x = true then a env h1 else b env h1
noncomputable def bL (i : Nat) (a : ME) : MS := fun env h => (a env h).bind fun d h1 => .ok (.nx (env.set i (some d))) h1
noncomputable def sf (i j : Nat) (a : MA) : MS := fun env h => (a env h).bind fun ds h1 => match ds with
  | [x, y] => .ok (.nx ((env.set i (some x)).set j (some y))) h1
  | _ => .bad
noncomputable def e_ (f : D -> D -> D -> Hh -> R Unit) (o i v : ME) : MS := fun env h => (v env h).bind fun x h1 => (o env h1).bind fun y h2 => (i env h2).bind fun z h3 => (f y z x h3).bind fun _ h4 => .ok (.nx env) h4
noncomputable def rg : MS := fun _ _ => .bad
section
variable {X : Cx} {g : GG} {ε : EE} {e : Expr} {me : ME} {ms mu : MS} {mt : MT} {st : Stmt} {rest : List Stmt} {pos : Pos}
theorem cz.nx {K : PySem.W.Frag} {α α' : List Addr} {H H' : Hp} {env : En} {σ : St} {h' : Hh} {E : Ends} (s : cz K g α' H' env σ h') (e : Ext K α H α' H') (w : bP K g α H E (.nx env) h') : E.nx σ H' := w H' α' e s.heap σ s.vs
theorem bR : PSs X [] (tMS X.K g ε bI) := PSs.imp yL fun E σ H ⟨α, env, h, s, w⟩ => s.nx Ext.refl w
theorem tMS.use {K : PySem.W.Frag} {α : List Addr} {H : Hp} {env : En} {σ : St} {h : Hh} {m : MS} {E : Ends} {k : Fl -> Hh -> Prop} (s : cz K g α H env σ h) (w : WQ K g ε α H (m env h) k)
    (q : ∀ fl h' H' α', Ext K α H α' H' -> aN K g α' H' h' -> k fl h' -> match fl with
      | .nx e => ∀ σ', cz K g α' H' e σ' h' -> E.nx σ' H'
      | .bk e => ∀ σ', cz K g α' H' e σ' h' -> E.bk σ' H'
      | .ct e => ∀ σ', cz K g α' H' e σ' h' -> E.ct σ' H'
      | .rt d => ∀ v, aB K g α' H' d v -> E.rt v H') : tMS K g ε m E σ H :=
  ⟨α, env, h, s, w.mono fun fl h' _ kk H' α' e r => by
    have := q fl h' H' α' e r kk
    cases fl with
    | nx e => exact fun σ' v => this σ' ⟨r, v⟩
    | bk e => exact fun σ' v => this σ' ⟨r, v⟩
    | ct e => exact fun σ' v => this σ' ⟨r, v⟩
    | rt d => exact this⟩
theorem aw (h1 : PS X st (tMS X.K g ε ms)) (h2 : PSs X rest (tMS X.K g ε mu)) : PSs X (st :: rest) (tMS X.K g ε (aG ms mu)) :=
  PSs.imp (vP h1 h2) fun E σ H ⟨α, env, h, s, w⟩ => tMS.use s w.bind fun fl h' H' α' e r kk => by
    cases fl with
    | nx env' => exact fun σ' s' => ⟨α', env', h', s', WQ.sX e kk⟩
    | bk env' => exact fun σ' s' => (show bP X.K g α H E (.bk env') h' from kk) H' α' e r σ' s'.vs
    | ct env' => exact fun σ' s' => (show bP X.K g α H E (.ct env') h' from kk) H' α' e r σ' s'.vs
    | rt d => exact fun v rv => (show bP X.K g α H E (.rt d) h' from kk) H' α' e r v rv
theorem aC (h1 : PS X st (tMS X.K g ε ms)) : PSs X [st] (tMS X.K g ε ms) := yo h1
theorem dE (he : PE X e (tM X.K g ε me)) (hs : swapsWith e none pos.line X.env = pure false := by rfl) : PS X (.Expr e pos) (tMS X.K g ε (dI me)) :=
  PS.imp (ya he hs) fun E σ H ⟨α, env, h, s, w⟩ => tM.use s w.bind fun d1 h1 v1 H1 α1 e1 s1 r1 w1 => s1.nx e1 w1
theorem bp (he : PE X e (tM X.K g ε me)) : PS X (.Return (some e) pos) (tMS X.K g ε (bw me)) :=
  PS.imp (A2 he) fun E σ H ⟨α, env, h, s, w⟩ => tM.use s w.bind fun d1 h1 v1 H1 α1 e1 s1 r1 w1 => (show bP X.K g α H E (.rt d1) h1 from w1) H1 α1 e1 s1.heap v1 r1
theorem jj {c : Expr} {A B : List Stmt} (hc : PT X c (tMT X.K g ε mt)) (ha : PSs X A (tMS X.K g ε ms)) (hb : PSs X B (tMS X.K g ε mu)) : PS X (.If c A B pos) (tMS X.K g ε (cQ mt ms mu)) :=
  PS.imp (BL hc ha hb) fun E σ H ⟨α, env, h, s, w⟩ => tMT.use s w.bind fun d1 h1 H1 α1 e1 s1 w1 => by
    cases d1 with
    | true => rw [if_pos rfl] at w1 ⊢; exact ⟨α1, env, h1, s1, WQ.sX e1 w1⟩
    | false => rw [if_neg Bool.false_ne_true] at w1 ⊢; exact ⟨α1, env, h1, s1, WQ.sX e1 w1⟩
theorem cj {i : Nat} {x : Str} {pos' : Pos} (hN : X.N.Nodup) (hi : X.N[i]? = some x) (hx : Loc X.env.scope x) (he : PE X e (tM X.K g ε me)) (hs : swapsWith e (some (.Name x pos')) pos.line X.env = pure false := by rfl) (hf : X.fn x = true \/ X.env.scope.names.lookup x = some .local := by first | exact .inl rfl | exact .inr rfl | assumption) :
    PS X (.Assign [.Name x pos'] e pos) (tMS X.K g ε (bL i me)) :=
  PS.imp (Af hN hi hx he hs hf) fun E σ H ⟨α, env, h, s, w⟩ => tM.use s w.bind fun d1 h1 v1 H1 α1 e1 s1 r1 w1 => (show bP X.K g α H E (.nx (env.set i (some d1))) h1 from w1) H1 α1 e1 s1.heap _ (s1.vs.set r1)
theorem CA {i j : Nat} {x y : Str} {a b : Expr} {ma : MA} {px py pt : Pos} {kt k2 pt2} (hc : X.calm = true) (hN : X.N.Nodup) (hi : X.N[i]? = some x) (hj : X.N[j]? = some y) (hij : i ≠ j)
    (hx : X.env.scope.names.lookup x = some .local) (hy : X.env.scope.names.lookup y = some .local) (ha : PA X [a, b] (tMA X.K g ε ma))
    (hw : swappedStores [.Tuple [.Name x px, .Name y py] kt pt] (.Tuple [a, b] k2 pt2) X.env = pure (some [x, y]))
    (hs : swapsWithSole [.Tuple [.Name x px, .Name y py] kt pt] (.Tuple [a, b] k2 pt2) pos.line X.env = pure false := by rfl) :
    PS X (.Assign [.Tuple [.Name x px, .Name y py] kt pt] (.Tuple [a, b] k2 pt2) pos) (tMS X.K g ε (sf i j ma)) :=
  PS.imp (zT hc hN hi hj hij hx hy ha hw hs) fun E σ H ⟨α, env, h, s, w⟩ => tMA.use s w.bind fun d1 h1 v1 H1 α1 e1 s1 r1 w1 => by
    cases r1 with
    | nil => exact w1.elim
    | cons ra rr =>
      cases rr with
      | nil => exact w1.elim
      | cons rb rr =>
        cases rr with
        | nil => exact ⟨_, _, rfl, (show bP X.K g α H E (.nx _) h1 from w1) H1 α1 e1 s1.heap _ ((s1.vs.set ra).set rb)⟩
        | cons _ _ => exact w1.elim
noncomputable def Cg (K : PySem.W.Frag) (g : GG) (ε : EE) (f : D -> D -> D -> Hh -> R Unit) (t : sv) : Prop :=
  ∀ (α : List Addr) (H : Hp) (h : Hh) (o i v : D) (x y z : V) (Q : Hp -> Prop), aN K g α H h -> aB K g α H o x -> aB K g α H i y -> aB K g α H v z -> WQ K g ε α H (f o i v h) (fun _ h' => ∀ H' α', Ext K α H α' H' -> aN K g α' H' h' -> Q H') -> t x y z H Q
theorem pF {o i : Expr} {mo mi : ME} {t : sv} {f : D -> D -> D -> Hh -> R Unit} {p : Pos} (he : PE X e (tM X.K g ε me)) (ho : PE X o (tM X.K g ε mo)) (hi : PE X i (tM X.K g ε mi)) (hp : xZ X t) (im : Cg X.K g ε f t)
    (ha : ∀ v, assign (.Subscript o i p) X.env v = (do
      let ov ← holding [v] (eval o X.env)
      let iv ← holding [v, ov] (eval i X.env)
      standAt p
      holding [v, ov, iv] (setItem ov iv v)
      release [v, ov, iv] []) := by intro _; rfl)
    (hs : swapsWithSole [.Subscript o i p] e pos.line X.env = pure false := by rfl) (hw : swappedStores [.Subscript o i p] e X.env = pure none := by rfl)
    (h1 : (assignEach [.Subscript o i p] X.env).map (·.2) = [assign (.Subscript o i p) X.env] := by rfl) : PS X (.Assign [.Subscript o i p] e pos) (tMS X.K g ε (e_ f mo mi me)) :=
  PS.imp (vy he (Bg ho hi hp ha) hs hw h1) fun E σ H ⟨α, env, h, s, w⟩ => tM.use s w.bind fun d1 h1 v1 H1 α1 e1 s1 r1 w1 => tM.use s1 (w1.ext e1).bind fun d2 h2 v2 H2 α2 e2 s2 r2 w2 => tM.use s2 (w2.ext e2).bind fun d3 h3 v3 H3 α3 e3 s3 r3 w3 => by
    refine im α3 H3 h3 d2 d3 d1 v2 v3 v1 _ s3.heap (r2.ext e3) r3 ((r1.ext e2).ext e3) ((w3.ext e3).bind.mono fun _ h4 _ w4 H4 α4 e4 hr4 => ?_)
    exact (show bP X.K g α H E (.nx env) h4 from w4) H4 α4 (e1.trans (e2.trans (e3.trans e4))) hr4 _ (s3.vs.ext e4)
end
theorem xT {X : Cx} {pins : List (Addr × Obj)} {σ : St} {H : Hp} {s : Shared} {p : Addr} {u : HO} (I : Inv X pins σ H s) (h : H p = some u) (mu : Mut (some u)) : ∃ o, Inv X pins σ (upd H p (.frz o u)) s := by
  obtain ⟨o, ho⟩ : ∃ o, s.heap.get? p = some o := by
    have hl := (I.hok p _ h).lt
    cases e : s.heap.get? p with
    | some o => exact ⟨o, rfl⟩
    | none => 
      have q := I.hok p _ h
      cases u with
      | lst xs => obtain ⟨_, _, _, _, e'⟩ := q; rw [e] at e'; cases e'
      | dK kvs => obtain ⟨_, _, _, _, o, _, _, e', _⟩ := q; rw [e] at e'; cases e'
      | dT kvs => obtain ⟨_, _, _, _, o, _, _, e', _⟩ := q; rw [e] at e'; cases e'
      | set S n => obtain ⟨o, _, _, _, e', _⟩ := q; rw [e] at e'; cases e'
      | ins C dx fs => obtain ⟨_, _, _, e', _⟩ := q; rw [e] at e'; cases e'
      | ext φ => obtain ⟨_, ⟨_, e'⟩, _⟩ := q; rw [e] at e'; cases e'
      | _ => exact absurd mu (fun z => z)
  have nt : ∀ b xs, H b = some (.tup xs) -> b ≠ p := fun b xs e z => by subst z; rw [h] at e; cases e; exact mu
  have nf : ∀ b o u, H b = some (.frz o u) -> b ≠ p := fun b o u e z => by subst z; rw [h] at e; cases e; exact mu
  have nb : ∀ b ps, H b = some (.tbl ps) -> b ≠ p := fun b ps e z => by subst z; rw [h] at e; cases e; exact mu
  have no : ∀ b y, H b = some (.own y) -> b ≠ p := fun b ps e z => by subst z; rw [h] at e; cases e; exact mu
  have hok : HOk X.prog X.w (upd H p (.frz o u)) s.heap := fun b v q => by
    by_cases hb : b = p
    · subst hb
      rw [aR] at q; cases q
      exact ⟨ho, (I.hok b _ h).mw (fun _ _ _ z => z) (fun c z => by rw [aE (no c _ z)]; exact z) fun c xs z => by rw [aE (nt c xs z)]; exact z⟩
    · rw [aE hb] at q
      exact (I.hok b v q).mw (fun _ _ _ z => z) (fun c z => by rw [aE (no c _ z)]; exact z) fun c xs z => by rw [aE (nt c xs z)]; exact z
  refine ⟨o, ?_⟩
  have np : ∀ b, H b = none -> b ≠ p := fun b e z => by subst z; rw [h] at e; cases e
  have := I.un (H' := upd H p (.frz o u)) (h' := s.heap) (t' := s.toks) ⟨fun b o q _ _ _ => q, fun b o q _ _ _ => ⟨o.slots, q⟩, fun b v q n _ => (by rw [aE (np b n)]; exact n), fun b o q _ => ⟨o, q⟩, fun b xs q => (by rw [aE (nt b xs q)]; exact q), fun b o v q => (by rw [aE (nf b o v q)]; exact q), fun b ps q => ⟨#[], by rw [aE (nb b ps q), q]; simp⟩⟩ hok
  exact this
noncomputable def fW (Q : VK) : VK := fun v H => Q v H \/ ∃ p u, v = .ref p /\ H p = some u /\ Mut (some u) /\ ∀ o, Q v (upd H p (.frz o u))
theorem EP.frz {X : Cx} {pins : List (Addr × Obj)} {σ : St} {Q : VK} {u : Value} {s' : Shared} (h : EP X pins σ (fW Q) u s') : EP X pins σ Q u s' := by
  obtain ⟨v, H', I, r, q | ⟨p, u, rfl, e, m, q⟩⟩ := h
  · exact ⟨v, H', I, r, q⟩
  · obtain ⟨o, I'⟩ := xT I e m
    exact ⟨_, _, I', r, q o⟩
theorem PE.frz {X : Cx} {e : Expr} {t : TE} (h : PE X e t) : PE X e fun σ H Q => t σ H (fW Q) := fun pins s σ H Q I w => thn (h pins s σ H _ I w) fun _ _ z => EP.frz z
theorem OpR.frz {X : Cx} {f : Value -> Value -> Sem Value} {r : R2} (h : OpR X f r) : OpR X f fun x y H Q => r x y H (fW Q) := fun pins s σ H x y v u Q I rx ry q => thn (h pins s σ H x y v u _ I rx ry q) fun _ _ z => EP.frz z
theorem bu.frz {X : Cx} {f : Value} {r : List V -> Hp -> VK -> Prop} (h : bu X f r) : bu X f fun xs H Q => r xs H (fW Q) := fun pins s σ H xs us Q I rx q => thn (h pins s σ H xs us _ I rx q) fun _ _ z => EP.frz z
noncomputable abbrev NL := List D -> Hh -> R D
noncomputable def lJ : NL := fun ys h2 => .ok (.ref h2.length) (h2 ++ [O.lst ys])
noncomputable def aD : NL := fun ys h2 => .ok (.frl ys) h2
class gq (nl : NL) : Prop where
  at' : ∀ {K : PySem.W.Frag} {g : GG} {ε : EE} {α1 α2 : List Addr} {H1 H2 : Hp} {h : Hh} {as : List D} {ys : List V} {acc : Addr} {Q : D -> Hh -> Prop} {R : VK}, WQ K g ε α1 H1 (nl as h) Q -> (∀ d h', Q d h' -> aF K g α1 H1 R d h') -> Ext K α1 H1 α2 H2 -> aN K g α2 H2 h -> ar K g α2 H2 as ys -> H2 acc = some (.lst ys) -> acc ∉ α2 -> H1 acc = none -> fW R (.ref acc) H2
instance : gq lJ where
  at' := fun {K g ε α1 α2 H1 H2 h as ys acc Q R} w hq x2 hr2 ra ha hna hacc => by
    have x3 : Ext K α1 H1 (α2 ++ [acc]) H2 := ⟨x2.toEx0.trans (Ex0.refl.more _), x2.keep, fun p z n => by
      rcases List.mem_append.mp z with z | z
      · exact x2.new p z n
      · rw [List.mem_singleton.mp z]; exact hacc⟩
    refine .inl (hq _ _ w _ H2 (α2 ++ [acc]) x3 (hr2.adopt hna ⟨ys, ha, ra.ex0 (Ex0.refl.more _)⟩) (.ref ?_))
    rw [<- hr2.len, List.getElem?_append_right (Nat.le_refl _)]; simp
instance : gq aD where
  at' := fun {K g ε α1 α2 H1 H2 h as ys acc Q R} w hq x2 hr2 ra ha hna hacc => by
    refine .inr ⟨acc, _, rfl, ha, trivial, fun o => ?_⟩
    have soft : xy H2 acc := .inr ⟨_, ha, fun _ z => (nomatch z), fun _ _ z => nomatch z⟩
    have x6 : Ex0 K α2 H2 α2 (upd H2 acc (.frz o (.lst ys))) := Ex0.upd soft
    refine hq _ _ w _ _ α2 ⟨x2.toEx0.trans x6, fun p u z n => ?_, x2.new⟩ (hr2.off soft hna) (.frl ⟨o, aR⟩ (ra.ex0 x6))
    rw [aE (bD z hacc)]; exact x2.keep p u z n
theorem NL.post {nl : NL} [gq nl] {K : PySem.W.Frag} {g : GG} {ε : EE} {α : List Addr} {H : Hp} {h : Hh} {ds : List D} {vs : List V} {Q : VK} {p : Addr} (w : WQ K g ε α H (nl ds h) (aF K g α H Q)) (r : aN K g α H h) (rd : ar K g α H ds vs) (n : H p = none) : fW Q (.ref p) (upd H p (.lst vs)) :=
  gq.at' w (fun _ _ z => z) (Ext.fresh n) (r.grow n) (rd.ext (Ext.fresh n)) aR (r.free n) n
noncomputable def eO (nl : NL) : List D -> Hh -> R D := fun ds h => if ds.length <= 1000000 then nl ds h else .bad
theorem fq {X : Cx} {g : GG} {ε : EE} {es : List Expr} {mr : MA} {pos : Pos} {nl : NL} [gq nl] (ha : PA X es (tMA X.K g ε mr)) : PE X (.List es pos) (tM X.K g ε (aj (eO nl) mr)) :=
  PE.imp (PE.frz (AB ha)) fun σ H Q ⟨α, env, h, s, w⟩ => tMA.use s w.bind fun d1 h1 v1 H1 α1 e1 s1 r1 w1 => by
    obtain ⟨hl, w2⟩ := WQ.eW w1
    exact ⟨eU (by rw [<- r1.length]; exact hl), fun p hp => NL.post (w2.post e1) s1.heap r1 hp⟩
noncomputable def ax (h : Hh) (n : Nat) : Option (List D) := match h[n]? with
  | some (.lst ds) => some ds
  | _ => none
inductive Src where
  | snap (ds : List D)
  | live (n : Nat)
  | liveE (n : Nat)
noncomputable abbrev MI := En -> Hh -> R Src
noncomputable abbrev Rdr := Hh -> Nat -> Option (Option D)
noncomputable def Src.rdr : Src -> Rdr
  | .snap ds => fun _ i => some ds[i]?
  | .live n => fun h i => (ax h n).map fun ds => ds[i]?
  | .liveE n => fun h i => (ax h n).map fun ds => (ds[i]?).map fun d => D.tup [.int i, d]
noncomputable def Src.fuel (s : Src) (h : Hh) : Nat := match s with
  | .snap ds => ds.length
  | .live n => ((ax h n).getD []).length
  | .liveE n => ((ax h n).getD []).length
noncomputable def Reads (K : PySem.W.Frag) (g : GG) (J : It) (rd : Rdr) (α₀ : List Addr) (aQ : Hp) : Prop :=
  ∀ (α : List Addr) (H : Hp) (h : Hh), Ext K α₀ aQ α H -> aN K g α H h -> ∀ i, match rd h i with
    | none => True
    | some none => J.stop i H
    | some (some d) => J.go i H /\ ∀ x H', J.yld i H x H' -> ∃ α', Ext K α H α' H' /\ aN K g α' H' h /\ aB K g α' H' d x
noncomputable def tMI (K : PySem.W.Frag) (g : GG) (ε : EE) (m : MI) : TI := fun σ H T => ∃ α env h, cz K g α H env σ h /\ WQ K g ε α H (m env h) fun sr h' => ∀ J H' α', Ext K α H α' H' -> aN K g α' H' h' -> Reads K g J sr.rdr α' H' -> T J H'
theorem PI.imp {X : Cx} {tg e : Expr} {t t' : TI} (h : PI X tg e t) (i : ∀ σ H Q, t' σ H Q -> t σ H Q) : PI X tg e t' := fun pins s σ H Q I w => h pins s σ H Q I (i σ H Q w)
noncomputable def gp (rd : Rdr) (tg : D -> En -> Hh -> R En) (body : MS) : Nat -> Nat -> En -> Hh -> R Fl
  | k, i, env, h => match rd h i with
    | none => .bad
    | some none => .ok (.nx env) h
    | some (some d) => match k with
      | 0 => .bad
      | k + 1 => (tg d env h).bind fun e1 h1 => (body e1 h1).bind fun fl h2 => match fl with
        | .nx e => gp rd tg body k (i + 1) e h2
        | .ct e => gp rd tg body k (i + 1) e h2
        | .bk e => .ok (.nx e) h2
        | .rt d => .ok (.rt d) h2
noncomputable def cT (tg : D -> En -> Hh -> R En) (body : MS) : List D -> En -> Hh -> R Fl
  | [], env, h => .ok (.nx env) h
  | d :: ds, env, h => (tg d env h).bind fun e1 h1 => (body e1 h1).bind fun fl h2 => match fl with
    | .nx e => cT tg body ds e h2
    | .ct e => cT tg body ds e h2
    | .bk e => .ok (.nx e) h2
    | .rt d => .ok (.rt d) h2
theorem yI (tg : D -> En -> Hh -> R En) (body : MS) (all : List D) : ∀ (ds : List D) (i : Nat) (env : En) (h : Hh), all.drop i = ds -> gp (Src.snap all).rdr tg body ds.length i env h = cT tg body ds env h := by
  intro ds
  induction ds with
  | nil =>
    intro i env h e
    have : all[i]? = none := by
      have := congrArg List.length e
      simp at this
      exact List.getElem?_eq_none (by omega)
    unfold gp cT Src.rdr
    simp [this]
  | cons d ds ih =>
    intro i env h e
    have h0 : all[i]? = some d := by
      have := congrArg (fun l => l[0]?) e
      simpa using this
    have h1 : all.drop (i + 1) = ds := by
      have := congrArg List.tail e
      simpa using this
    unfold gp cT
    have : (Src.snap all).rdr h i = some (some d) := by unfold Src.rdr; simp [h0]
    rw [this]
    show ((tg d env h).bind _) = _
    congr 1
    funext e1 h2
    congr 1
    funext fl h3
    cases fl with
    | nx e => exact ih (i + 1) e h3 h1
    | ct e => exact ih (i + 1) e h3 h1
    | bk e => rfl
    | rt d => rfl
noncomputable def cR (mi : MI) (tg : D -> En -> Hh -> R En) (body : MS) : MS := fun env h => (mi env h).bind fun sr h1 => match sr with
  | .snap ds => cT tg body ds env h1
  | .live n => gp (Src.live n).rdr tg body ((ax h1 n).getD []).length 0 env h1
  | .liveE n => gp (Src.liveE n).rdr tg body ((ax h1 n).getD []).length 0 env h1
theorem yZ {mi : MI} {tg : D -> En -> Hh -> R En} {body : MS} {env : En} {h : Hh} : cR mi tg body env h = (mi env h).bind fun sr h1 => gp sr.rdr tg body (sr.fuel h1) 0 env h1 := by
  unfold cR
  congr 1
  funext sr h1
  cases sr with
  | snap ds => exact (yI tg body ds ds 0 env h1 rfl).symm
  | live n => rfl
  | liveE n => rfl
noncomputable def gN (i : Nat) : D -> En -> Hh -> R En := fun d env h => .ok (env.set i (some d)) h
noncomputable def gT2 (i j : Nat) : D -> En -> Hh -> R En := fun d env h => match d with
  | .tup [x, y] => .ok ((env.set i (some x)).set j (some y)) h
  | _ => .bad
noncomputable def AF (K : PySem.W.Frag) (g : GG) (ε : EE) (tg : D -> En -> Hh -> R En) (t : TG) : Prop :=
  ∀ (α : List Addr) (H : Hp) (h : Hh) (env : En) (σ : St) (d : D) (x : V) (Q : St -> Hp -> Prop), cz K g α H env σ h -> aB K g α H d x →
    WQ K g ε α H (tg d env h) (fun e1 h1 => ∀ σ' H' α', Ext K α H α' H' -> cz K g α' H' e1 σ' h1 -> Q σ' H') -> t x σ H Q
theorem dg {K : PySem.W.Frag} {g : GG} {ε : EE} {i : Nat} : AF K g ε (gN i) (fw i) := fun α H h env σ d x Q s r w => w _ H α Ext.refl ⟨s.heap, s.vs.set r⟩
theorem vL {K : PySem.W.Frag} {g : GG} {ε : EE} {i j : Nat} : AF K g ε (gT2 i j) (wx K 2 (i9 (fw i) (i9 (fw j) vc))) := fun α H h env σ d x Q s r w => by
  unfold gT2 at w
  cases r with
  | tup hq rs =>
    cases rs with
    | nil => exact w.elim
    | cons ra rr =>
      cases rr with
      | nil => exact w.elim
      | cons rb rr =>
        cases rr with
        | nil => exact ⟨_, _, rfl, SqT.of hq, rfl, _, _, rfl, _, _, rfl, rfl, w _ H α Ext.refl ⟨s.heap, (s.vs.set ra).set rb⟩⟩
        | cons _ _ => exact w.elim
  | _ => exact w.elim
section
variable {X : Cx} {g : GG} {ε : EE}
theorem gL {tg iter : Expr} {body : List Stmt} {mi : MI} {t : TG} {fg : D -> En -> Hh -> R En} {mb : MS} {pos : Pos} (hp : PassesOwn (model X.prog X.w) X.A X.env X.xe) (hc : X.calm = true) (hi : PI X tg iter (tMI X.K g ε mi)) (hg : PG X tg t) (ig : AF X.K g ε fg t) (hb : PSs X body (tMS X.K g ε mb))
    (hs : ∀ x, foldedSetIterable iter X.env x = pure x := by intro _; rfl) : PS X (.For tg iter body [] pos) (tMS X.K g ε (cR mi fg mb)) := by
  refine PS.imp (zX hp hc hi hg hb hs) fun E σ H ⟨α, env, h, s, w⟩ => ?_
  rw [yZ] at w
  refine ⟨α, env, h, s, w.bind.mono fun sr h1 _ w1 J H1 α1 e1 hr1 rd => ?_⟩
  refine ⟨fun i m σ H => ∃ α env h, Ext X.K α1 H1 α H /\ cz X.K g α H env σ h /\ WQ X.K g ε α H (gp sr.rdr fg mb m i env h) (bP X.K g α H E), ⟨sr.fuel h1, α1, env, h1, Ext.refl, s.ext e1 hr1, w1.sX e1⟩, ?_⟩
  rintro i m σ2 H2 ⟨α2, env2, h2, x2, s2, w2⟩
  have q := rd α2 H2 h2 x2 s2.heap i
  unfold gp at w2
  cases e : sr.rdr h2 i with
  | none => rw [e] at w2; exact w2.elim
  | some od =>
    rw [e] at w2 q
    cases od with
    | none => exact .inl ⟨q, s2.nx Ext.refl w2⟩
    | some d =>
      cases m with
      | zero => exact w2.elim
      | succ m =>
        have w3 := WQ.bind (show WQ X.K g ε α2 H2 ((fg d env2 h2).bind _) _ from w2)
        refine .inr ⟨q.1, fun σ' H' => ∃ α env h, Ext X.K α1 H1 α H' /\ cz X.K g α H' env σ' h /\ WQ X.K g ε α H' (gp sr.rdr fg mb m (i + 1) env h) (bP X.K g α H' E), fun σ' H' z => ⟨m, Nat.lt_succ_self _, z⟩, fun x H3 y => ?_⟩
        obtain ⟨α3, x3, hr3, rx⟩ := q.2 x H3 y
        refine ig α3 H3 h2 env2 σ2 d x _ (s2.ext x3 hr3) rx ((w3.ext x3).mono fun e4 h4 _ w4 σ4 H4 α4 x4 s4 => ?_)
        refine tMS.use s4 ((w4.ext x3).ext x4).bind fun fl h5 H5 α5 x5 hr5 w5 => ?_
        have tr : Ext X.K α2 H2 α5 H5 := x3.trans (x4.trans x5)
        cases fl with
        | nx e => exact fun σ' s' => ⟨α5, e, h5, x2.trans tr, s', ((w5.ext x5)).mono fun _ _ _ p => p.ext tr⟩
        | ct e => exact fun σ' s' => ⟨α5, e, h5, x2.trans tr, s', ((w5.ext x5)).mono fun _ _ _ p => p.ext tr⟩
        | bk e => exact fun σ' s' => (show bP X.K g α2 H2 E (.nx e) h5 from w5) H5 α5 tr hr5 σ' s'.vs
        | rt d => exact fun v rv => (show bP X.K g α2 H2 E (.rt d) h5 from w5) H5 α5 tr hr5 v rv
theorem aN.lst {K : PySem.W.Frag} {α : List Addr} {H : Hp} {h : Hh} {n : Nat} {ds : List D} (r : aN K g α H h) (e : ax h n = some ds) {p : Addr} (hp : α[n]? = some p) : ∃ vs, H p = some (.lst vs) /\ ar K g α H ds vs := by
  unfold ax at e
  cases o : h[n]? with
  | none => rw [o] at e; cases e
  | some o' =>
    rw [o] at e
    have q := r.here n p o' hp o
    cases o' with
    | lst ds' => cases e; obtain ⟨vs, a, b⟩ := q; exact ⟨vs, a, b⟩
    | set n => cases e
    | dic k => cases e
    | dit k => cases e
noncomputable def pX : D -> Hh -> R Src
  | .tup ds, h => .ok (.snap ds) h
  | .frl ds, h => .ok (.snap ds) h
  | .scr ds, h => .ok (.snap ds) h
  | .ref n, h => match ax h n with
    | some _ => .ok (.live n) h
    | none => .bad
  | _, _ => .bad
noncomputable def cF (a : ME) : MI := fun env h => (a env h).bind pX
noncomputable def DC (K : PySem.W.Frag) (tl : TE) : TI := fun σ H R => tl σ H fun x H1 => ∃ a, x = .ref a /\ (((∃ xs, SqL K H1 a xs) /\ R (Itl K a) H1) \/ ((∃ xs, SqT K H1 a xs) /\ R (Itt K a) H1))
theorem A_ {tg l : Expr} {tl : TE} (hl : PE X l tl) : PI X tg l (DC X.K tl) := by
  intro pins s σ H R I h
  refine thn (hl pins s σ H _ I h) fun v s1 ⟨x, H1, I1, r1, q1⟩ => ?_
  obtain ⟨a, e, q⟩ := q1
  subst e
  cases r1
  rcases q with ⟨⟨xs, hq⟩, q⟩ | ⟨⟨xs, hq⟩, q⟩
  · obtain ⟨its, rv, p, hz⟩ := I1.list hq
    refine wpAny_pyIter_list p.isList ?_
    refine ⟨s1.heap.objs.size, [s1.heap.objs.size], _, _, H1, rfl, I1.kept (t' := s1.toks) fun b o e => Heap.get?_push_of_some _ e, uF a _, ⟨_, Heap.get?_push_size _ rfl, rfl, rfl⟩, fun b hb => ?_, q⟩
    have e : b = s1.heap.objs.size := by simpa using hb
    subst e
    exact I1.wb (Nat.le_refl _) (I1.hok.fresh (Nat.le_refl _))
  · obtain ⟨its, rv, p, hz⟩ := I1.tuple hq
    refine wpAny_pyIter_tuple (show s1.heap.IsTuple a its.toArray from p) ?_
    refine ⟨s1.heap.objs.size, [s1.heap.objs.size], _, _, H1, rfl, I1.kept (t' := s1.toks) fun b o e => Heap.get?_push_of_some _ e, se a _, ⟨_, Heap.get?_push_size _ rfl, rfl, rfl⟩, fun b hb => ?_, q⟩
    have e : b = s1.heap.objs.size := by simpa using hb
    subst e
    exact I1.wb (Nat.le_refl _) (I1.hok.fresh (Nat.le_refl _))
theorem uB {K : PySem.W.Frag} {α : List Addr} {H : Hp} {a : Addr} {ds : List D} {vs : List V} (hq' : H a = some (.tup vs)) (rs : ar K g α H ds vs) : Reads K g (Itt K a) (Src.snap ds).rdr α H := by
  intro α2 H2 h2 x2 hr i
  have hq2 : SqT K H2 a vs := SqT.of (x2.tup _ _ hq')
  have rs2 := rs.ext x2
  show match some ds[i]? with | none => True | some none => _ | some (some d) => _
  cases e : ds[i]? with
  | none =>
    have : ds.length <= i := List.getElem?_eq_none_iff.mp e
    exact ⟨vs, hq2, by rw [<- rs.length]; exact this⟩
  | some d =>
    obtain ⟨v, ev, rv⟩ := rs2.get e
    refine ⟨⟨vs, v, hq2, ev⟩, fun x H' y => ?_⟩
    obtain ⟨e1, e2⟩ := y
    subst e1
    have := e2 vs hq2
    rw [ev] at this
    cases this
    exact ⟨α2, Ext.refl, hr, rv⟩
theorem nM {K : PySem.W.Frag} {α : List Addr} {H : Hp} {a : Addr} {ds : List D} {vs : List V} (hq : Fro K H a vs) (rs : ar K g α H ds vs) : Reads K g (Itl K a) (Src.snap ds).rdr α H := by
  intro α2 H2 h2 x2 hr i
  have hq2 := x2.fro _ _ hq
  have rs2 := rs.ext x2
  show match some ds[i]? with | none => True | some none => _ | some (some d) => _
  cases e : ds[i]? with
  | none =>
    have : ds.length <= i := List.getElem?_eq_none_iff.mp e
    exact ⟨vs, hq2.sq, by rw [<- rs.length]; exact this⟩
  | some d =>
    obtain ⟨v, ev, rv⟩ := rs2.get e
    refine ⟨⟨vs, v, hq2.sq, ev⟩, fun x H' y => ?_⟩
    obtain ⟨e1, e2⟩ := y
    subst e1
    have := e2 vs hq2.sq
    rw [ev] at this
    cases this
    exact ⟨α2, Ext.refl, hr, rv⟩
theorem ui {K : PySem.W.Frag} {α : List Addr} {H : Hp} {a : Addr} {n : Nat} (ha : α[n]? = some a) : Reads K g (Itl K a) (Src.live n).rdr α H := by
  intro α2 H2 h2 x2 hr i
  show match (ax h2 n).map fun ds => ds[i]? with | none => True | some none => _ | some (some d) => _
  cases e : ax h2 n with
  | none => trivial
  | some ds =>
    obtain ⟨vs, hq', rs⟩ := hr.lst e (x2.get ha)
    have hq : SqL K H2 a vs := SqL.of hq'
    show match some ds[i]? with | none => True | some none => _ | some (some d) => _
    cases ei : ds[i]? with
    | none =>
      have : ds.length <= i := List.getElem?_eq_none_iff.mp ei
      exact ⟨vs, hq, by rw [<- rs.length]; exact this⟩
    | some d =>
      obtain ⟨v, ev, rv⟩ := rs.get ei
      refine ⟨⟨vs, v, hq, ev⟩, fun x H' y => ?_⟩
      obtain ⟨e1, e2⟩ := y
      subst e1
      have := e2 vs hq
      rw [ev] at this
      cases this
      exact ⟨α2, Ext.refl, hr, rv⟩
theorem gy {tg e : Expr} {me : ME} (he : PE X e (tM X.K g ε me)) : PI X tg e (tMI X.K g ε (cF me)) :=
  PI.imp (A_ he) fun σ H T ⟨α, env, h, s, w⟩ => tM.use s w.bind fun d1 h1 v1 H1 α1 e1 s1 r1 w1 => by
    unfold pX at w1
    cases r1 with
    | tup hq rs => exact ⟨_, rfl, .inr ⟨⟨_, SqT.of hq⟩, w1 _ H1 α1 e1 s1.heap (uB hq rs)⟩⟩
    | frl hq rs => exact ⟨_, rfl, .inl ⟨⟨_, hq.sq⟩, w1 _ H1 α1 e1 s1.heap (nM hq.fro rs)⟩⟩
    | scr hq rs => exact ⟨_, rfl, .inl ⟨⟨_, hq.sq⟩, w1 _ H1 α1 e1 s1.heap (nM hq rs)⟩⟩
    | @ref n p hp =>
      cases el : ax h1 n with
      | none => simp only [el] at w1; exact w1.elim
      | some ds =>
        simp only [el] at w1
        obtain ⟨vs, hq, _⟩ := s1.heap.lst el hp
        exact ⟨p, rfl, .inl ⟨⟨_, SqL.of hq⟩, w1 _ H1 α1 e1 s1.heap (ui hp)⟩⟩
    | _ => exact w1.elim
noncomputable def dn (ds : List D) : List D := (List.range ds.length).map fun (i : Nat) => D.tup [.int i, ds.getD i .non]
noncomputable def qt : D -> Hh -> R Src
  | .tup ds, h => .ok (.snap (dn ds)) h
  | .frl ds, h => .ok (.snap (dn ds)) h
  | .ref n, h => match ax h n with
    | some _ => .ok (.liveE n) h
    | none => .bad
  | _, _ => .bad
noncomputable def l9 (a : ME) : MI := fun env h => (a env h).bind qt
theorem nB {ds : List D} {i : Nat} : (dn ds)[i]? = (ds[i]?).map fun d => D.tup [.int i, d] := by
  unfold dn
  rw [List.getElem?_map]
  by_cases hi : i < ds.length
  · have e : ds.getD i .non = ds[i] := by rw [List.getD_eq_getElem?_getD, List.getElem?_eq_getElem hi]; rfl
    rw [List.getElem?_range hi, List.getElem?_eq_getElem hi, Option.map_some, Option.map_some, e]
  · rw [List.getElem?_eq_none (by simpa using hi), List.getElem?_eq_none (by omega)]; rfl
theorem lV {K : PySem.W.Frag} {α : List Addr} {H : Hp} {h : Hh} {i : Nat} {d : D} {v : V} {p : Addr} (hr : aN K g α H h) (rv : aB K g α H d v) (hp : H p = none) :
    ∃ α', Ext K α H α' (upd H p (.tup [.int i, v])) /\ aN K g α' (upd H p (.tup [.int i, v])) h /\ aB K g α' (upd H p (.tup [.int i, v])) (.tup [.int i, d]) (.ref p) :=
  ⟨α, Ext.fresh hp, hr.grow hp, .tup aR (.cons (.int _) (.cons (rv.ext (Ext.fresh hp)) .nil))⟩
theorem p8 {K : PySem.W.Frag} {α : List Addr} {H : Hp} {a : Addr} {ds : List D} {vs : List V} (hq' : H a = some (.tup vs)) (rs : ar K g α H ds vs) : Reads K g (Iet K a) (Src.snap (dn ds)).rdr α H := by
  intro α2 H2 h2 x2 hr i
  have hq2 : SqT K H2 a vs := SqT.of (x2.tup _ _ hq')
  have rs2 := rs.ext x2
  show match some (dn ds)[i]? with | none => True | some none => _ | some (some d) => _
  rw [nB]
  cases e : ds[i]? with
  | none =>
    have : ds.length <= i := List.getElem?_eq_none_iff.mp e
    exact ⟨vs, hq2, by rw [<- rs.length]; exact this⟩
  | some d =>
    obtain ⟨v, ev, rv⟩ := rs2.get e
    refine ⟨⟨vs, v, hq2, ev⟩, fun x H' y => ?_⟩
    obtain ⟨p, v', e1, hp, e2, e3⟩ := y
    subst e1 e3
    have := e2 vs hq2
    rw [ev] at this
    cases this
    exact lV hr rv hp
theorem qS {K : PySem.W.Frag} {α : List Addr} {H : Hp} {a : Addr} {ds : List D} {vs : List V} (hq : Fro K H a vs) (rs : ar K g α H ds vs) : Reads K g (Iel K a) (Src.snap (dn ds)).rdr α H := by
  intro α2 H2 h2 x2 hr i
  have hq2 : SqL K H2 a vs := (x2.fro _ _ hq).sq
  have rs2 := rs.ext x2
  show match some (dn ds)[i]? with | none => True | some none => _ | some (some d) => _
  rw [nB]
  cases e : ds[i]? with
  | none =>
    have : ds.length <= i := List.getElem?_eq_none_iff.mp e
    exact ⟨vs, hq2, by rw [<- rs.length]; exact this⟩
  | some d =>
    obtain ⟨v, ev, rv⟩ := rs2.get e
    refine ⟨⟨vs, v, hq2, ev⟩, fun x H' y => ?_⟩
    obtain ⟨p, v', e1, hp, e2, e3⟩ := y
    subst e1 e3
    have := e2 vs hq2
    rw [ev] at this
    cases this
    exact lV hr rv hp
theorem qP {K : PySem.W.Frag} {α : List Addr} {H : Hp} {a : Addr} {n : Nat} (ha : α[n]? = some a) : Reads K g (Iel K a) (Src.liveE n).rdr α H := by
  intro α2 H2 h2 x2 hr i
  show match (ax h2 n).map fun ds => (ds[i]?).map fun d => D.tup [.int i, d] with | none => True | some none => _ | some (some d) => _
  cases e : ax h2 n with
  | none => trivial
  | some ds =>
    obtain ⟨vs, hq', rs⟩ := hr.lst e (x2.get ha)
    have hq : SqL K H2 a vs := SqL.of hq'
    show match some ((ds[i]?).map fun d => D.tup [.int i, d]) with | none => True | some none => _ | some (some d) => _
    cases ei : ds[i]? with
    | none =>
      have : ds.length <= i := List.getElem?_eq_none_iff.mp ei
      exact ⟨vs, hq, by rw [<- rs.length]; exact this⟩
    | some d =>
      obtain ⟨v, ev, rv⟩ := rs.get ei
      refine ⟨⟨vs, v, hq, ev⟩, fun x H' y => ?_⟩
      obtain ⟨p, v', e1, hp, e2, e3⟩ := y
      subst e1 e3
      have := e2 vs hq
      rw [ev] at this
      cases this
      exact lV hr rv hp
theorem pH {elts : List Expr} {kt : Nat} {tp p pos : Pos} {e : Expr} {me : ME} (hg : Gl X "enumerate") (hm : X.mg "enumerate" = none) (he : PE X e (tM X.K g ε me)) (hs : starEach [e] X.env = [(false, eval e X.env)] := by rfl) : PI X (.Tuple elts kt tp) (.Call (.Name "enumerate" p) [e] [] pos) (tMI X.K g ε (l9 me)) :=
  PI.imp (yw hg hm he hs) fun σ H T ⟨α, env, h, s, w⟩ => tM.use s w.bind fun d1 h1 v1 H1 α1 e1 s1 r1 w1 => by
    unfold qt at w1
    cases r1 with
    | tup hq rs => exact ⟨_, rfl, .inr ⟨⟨_, SqT.of hq⟩, w1 _ H1 α1 e1 s1.heap (p8 hq rs)⟩⟩
    | frl hq rs => exact ⟨_, rfl, .inl ⟨⟨_, hq.sq⟩, w1 _ H1 α1 e1 s1.heap (qS hq.fro rs)⟩⟩
    | @ref n p hp =>
      cases el : ax h1 n with
      | none => simp only [el] at w1; exact w1.elim
      | some ds =>
        simp only [el] at w1
        obtain ⟨vs, hq, _⟩ := s1.heap.lst el hp
        exact ⟨p, rfl, .inl ⟨⟨_, SqL.of hq⟩, w1 _ H1 α1 e1 s1.heap (qP hp)⟩⟩
    | _ => exact w1.elim
noncomputable def dJ (lo : Int) (n : Nat) : List D := (List.range n).map fun (i : Nat) => D.int (lo + i)
noncomputable def gx : List D -> Hh -> R Src
  | [.int j], h => if j.natAbs <= 1000000 then .ok (.snap (dJ 0 j.toNat)) h else .bad
  | _, _ => .bad
noncomputable def jv (f : List D -> Hh -> R Src) (a : MA) : MI := fun env h => (a env h).bind f
theorem tT {K : PySem.W.Frag} {α : List Addr} {H : Hp} {lo : Int} {n : Nat} : Reads K g (Itr lo n) (Src.snap (dJ lo n)).rdr α H := by
  intro α2 H2 h2 x2 hr i
  show match some (dJ lo n)[i]? with | none => True | some none => _ | some (some d) => _
  unfold dJ
  rw [List.getElem?_map]
  by_cases hi : i < n
  · rw [List.getElem?_range hi]
    refine ⟨hi, fun x H' y => ?_⟩
    obtain ⟨e1, e2⟩ := y
    subst e1 e2
    exact ⟨α2, Ext.refl, hr, .int _⟩
  · rw [List.getElem?_eq_none (by simpa using hi)]
    exact Nat.le_of_not_lt hi
theorem fY {tg a : Expr} {ma : MA} {p pos : Pos} (hg : Gl X "range") (hm : X.mg "range" = none) (ha : PA X [a] (tMA X.K g ε ma)) (hs : starEach [a] X.env = [(false, eval a X.env)] := by rfl) : PI X tg (.Call (.Name "range" p) [a] [] pos) (tMI X.K g ε (jv gx ma)) :=
  PI.imp (tI hg hm ha hs) fun σ H T ⟨α, env, h, s, w⟩ => tMA.use s w.bind fun d1 h1 v1 H1 α1 e1 s1 r1 w1 => by
    unfold gx at w1
    cases r1 with
    | nil => exact w1.elim
    | cons ra rr =>
      cases rr with
      | cons _ _ => cases ra <;> exact w1.elim
      | nil =>
        cases ra with
        | int j =>
          obtain ⟨hj, w2⟩ := WQ.eW w1
          exact ⟨j, rfl, by omega, by omega, w2 _ H1 α1 e1 s1.heap tT⟩
        | _ => exact w1.elim
noncomputable def ft (c : MT) (b : MS) : Nat -> En -> Hh -> R Fl
  | 0, _, _ => .bad
  | k + 1, env, h => (c env h).bind fun x h1 => if x = true then (b env h1).bind fun fl h2 => match fl with
      | .nx e => ft c b k e h2
      | .ct e => ft c b k e h2
      | .bk e => .ok (.nx e) h2
      | .rt d => .ok (.rt d) h2
    else .ok (.nx env) h1
noncomputable def rq (fuel : Nat) (c : MT) (b : MS) : MS := fun env h => ft c b fuel env h
theorem xX {c : Expr} {body : List Stmt} {mc : MT} {mb : MS} {pos : Pos} (fuel : Nat) (hp : PassesOwn (model X.prog X.w) X.A X.env X.xe) (hc : PT X c (tMT X.K g ε mc)) (hb : PSs X body (tMS X.K g ε mb)) : PS X (.While c body [] pos) (tMS X.K g ε (rq fuel mc mb)) := by
  refine PS.imp (xc hp hc hb) fun E σ H ⟨α, env, h, s, w⟩ => ?_
  refine ⟨fun m σ H => ∃ α env h, cz X.K g α H env σ h /\ WQ X.K g ε α H (ft mc mb m env h) (bP X.K g α H E), ⟨fuel, α, env, h, s, w⟩, ?_⟩
  rintro m σ2 H2 ⟨α2, env2, h2, s2, w2⟩
  cases m with
  | zero => exact w2.elim
  | succ m =>
    refine tMT.use s2 (WQ.bind (show WQ X.K g ε α2 H2 ((mc env2 h2).bind _) _ from w2)) fun b h3 H3 α3 x3 s3 w3 => ?_
    cases b with
    | false => rw [if_neg Bool.false_ne_true] at w3 ⊢; exact s3.nx x3 w3
    | true =>
      rw [if_pos rfl] at w3 ⊢
      refine ⟨fun σ' H' => ∃ α env h, cz X.K g α H' env σ' h /\ WQ X.K g ε α H' (ft mc mb m env h) (bP X.K g α H' E), fun σ' H' z => ⟨m, Nat.lt_succ_self _, z⟩, ?_⟩
      refine tMS.use s3 (w3.ext x3).bind fun fl h5 H5 α5 x5 hr5 w5 => ?_
      have tr : Ext X.K α2 H2 α5 H5 := x3.trans x5
      cases fl with
      | nx e => exact fun σ' s' => ⟨α5, e, h5, s', (w5.ext x5).mono fun _ _ _ p => p.ext tr⟩
      | ct e => exact fun σ' s' => ⟨α5, e, h5, s', (w5.ext x5).mono fun _ _ _ p => p.ext tr⟩
      | bk e => exact fun σ' s' => (show bP X.K g α2 H2 E (.nx e) h5 from w5) H5 α5 tr hr5 σ' s'.vs
      | rt d => exact fun v rv => (show bP X.K g α2 H2 E (.rt d) h5 from w5) H5 α5 tr hr5 v rv
end
noncomputable abbrev E00 : EE := fun _ _ _ => False
noncomputable abbrev MF := List D -> Hh -> R D
noncomputable def cm (n : Nat) (m : MS) : MF := fun ds h => (m (ds.map some ++ List.replicate (n - ds.length) none) h).bind fun fl h1 => match fl with
  | .rt d => .ok d h1
  | .nx _ => .ok .non h1
  | _ => .bad
noncomputable def spG (K : PySem.W.Frag) (g : GG) (ε : XK -> EE) (np : Nat) (m : MF) : Sp := fun vs H Q E => vs.length = np /\ ∃ α ds h, ar K g α H ds vs /\ aN K g α H h /\ WQ K g (ε E) α H (m ds h) (aF K g α H Q)
noncomputable abbrev spM (K : PySem.W.Frag) (g : GG) (np : Nat) (m : MF) : Sp := spG K g (fun _ => E00) np m
theorem uu {K : PySem.W.Frag} {g : GG} {α : List Addr} {H : Hp} {N : List Str} {ds : List D} {vs : List V} (r : ar K g α H ds vs) : iS K g α H (ds.map some ++ List.replicate (N.length - ds.length) none) (start N vs) := by
  have hl := r.length
  refine ⟨by simp [start, hl], fun i d h => ?_⟩
  by_cases hi : i < ds.length
  · rw [List.getElem?_append_left (by simpa using hi), List.getElem?_map] at h
    cases e : ds[i]? with
    | none => rw [e] at h; cases h
    | some d' =>
      rw [e] at h
      cases h
      obtain ⟨v, ev, rv⟩ := r.get e
      refine ⟨v, ?_, rv⟩
      unfold start
      rw [List.getElem?_append_left (by simp; omega), List.getElem?_map, ev]
      rfl
  · rw [List.getElem?_append_right (by simpa using hi), List.getElem?_replicate] at h
    split at h <;> cases h
section
variable {P : Program} {w : World} {K : PySem.W.Frag} {mg : Str -> Option Value} {base : Heap} {g : GG}
theorem di {x qual : Str} {st : Stmt} {f : Addr} {fd : FuncData} {N ps : List Str} {k : Nat} {mb : MS} (F : Fun K x qual st f fd) (S : aL N ps (au st))
    (hb : ∀ (cdv : Value) (A : Around) (outer : List Env) (s : Shared) (H : Hp) (E : XK), fu k (A.deeper (envOfC qual (au st) s.heap.objs.size f cdv)) →
      PSs (rF CX0 P w K mg base N qual (au st) f cdv A outer s H E).nox (fS st) (tMS K g E00 mb)) : fo P w K mg base CX0 (k + 1) f fd ps (spM K g ps.length (cm N.length mb)) := by
  refine F.ok S (fun vs H Q E h => h.1) fun cdv A outer s H vs Q E hr h => ⟨_, hb cdv A outer s H E hr, ?_⟩
  obtain ⟨hl, α, ds, h, rs, hh, w⟩ := h
  refine tMS.use ⟨hh, uu rs⟩ w.bind fun fl h' H' α' e r kk => ?_
  cases fl with
  | nx e' => exact fun σ' s' => (show aF K g α H Q .non h' from kk) _ H' α' e r .non
  | bk e' => exact kk.elim
  | ct e' => exact kk.elim
  | rt d => exact fun v rv => (show aF K g α H Q d h' from kk) _ H' α' e r rv
end
section
variable {X : Cx} {g : GG}
theorem az {k : Nat} {f : Addr} {fd : FuncData} {ps : List Str} {m : MF} {np : Nat} {x : Str} {p pos : Pos} {e : Expr} {es : List Expr} {mr : MA} (F : fo X.prog X.w X.K X.mg X.base CX0 k f fd ps (spM X.K g np m)) (hr : fu k X.A) (hg : Gl X x) (hm : X.mg x = some (.ref f)) (hk : PySem.W.keepIn X.K (.ref f) = true) (hb : Binds X.K fd ps [])
    (ha : PA X (e :: es) (tMA X.K g E00 mr)) (hlen : ∀ env h ds h', mr env h = .ok ds h' -> ds.length = np) (hdb : (x == ("__debug__" : Str)) = false := by decide) (he : starEach (e :: es) X.env = (false, eval e X.env) :: starEach es X.env := by rfl) (hpl : (backTo pos (starEach es X.env)).any (·.1) = false := by rfl) :
    PE X (.Call (.Name x p) (e :: es) [] pos) (tM X.K g E00 (aj m mr)) :=
  PE.imp (zu F hr hg hm hk hb .nil BM ha hdb he hpl) fun σ H Q ⟨α, env, h, s, w⟩ => ⟨α, env, h, s, w.bind.mono fun d1 h1 eq w1 v1 H1 α1 e1 hr1 r1 => by
    show spM X.K g np m (v1 ++ []) H1 Q E0
    rw [List.append_nil]
    refine ⟨?_, α1, d1, h1, r1, hr1, w1.post e1⟩
    rw [<- r1.length]
    exact hlen env h d1 h1 eq⟩
theorem aA : ∀ env h ds h', aq env h = .ok ds h' -> ds.length = 0 := fun env h ds h' e => by cases e; rfl
theorem ai {a : ME} {r : MA} {n : Nat} (q : ∀ env h ds h', r env h = .ok ds h' -> ds.length = n) : ∀ env h ds h', ae a r env h = .ok ds h' -> ds.length = n + 1 := fun env h ds h' e => by
  unfold ae at e
  cases e1 : a env h with
  | ok d h1 =>
    rw [e1] at e
    cases e2 : r env h1 with
    | ok ds2 h2 =>
      have e3 : (R.ok (d :: ds2) h2 : R (List D)) = .ok ds h' := by simpa [R.bind, e2] using e
      cases e3
      simp [q env h1 ds2 h' e2]
    | err x h2 => simp [R.bind, e2] at e
    | bad => simp [R.bind, e2] at e
  | err x h2 => rw [e1] at e; cases e
  | bad => rw [e1] at e; cases e
end
noncomputable def gG (ix : List Nat) (env : En) (d : D) : En := some d :: ix.map fun i => (env[i]?).join
noncomputable def tt1 : MT := fun _ h => .ok true h
noncomputable def eS (rd : Rdr) (tt : MT) (te : ME) (ee : D -> En) : Nat -> Nat -> List D -> Hh -> R (List D)
  | k, i, acc, h => match rd h i with
    | none => .bad
    | some none => .ok acc h
    | some (some d) => match k with
      | 0 => .bad
      | k + 1 => (tt (ee d) h).bind fun b h1 => if b = true then (te (ee d) h1).bind fun y h2 => eS rd tt te ee k (i + 1) (acc ++ [y]) h2 else eS rd tt te ee k (i + 1) acc h1
noncomputable def ck (tt : MT) (te : ME) (ee : D -> En) : List D -> Hh -> R (List D)
  | [], h => .ok [] h
  | d :: ds, h => (tt (ee d) h).bind fun b h1 => if b = true then (te (ee d) h1).bind fun y h2 => (ck tt te ee ds h2).bind fun ys h3 => .ok (y :: ys) h3 else ck tt te ee ds h1
theorem bg {β γ δ : Type} (r : R β) (f : β -> Hh -> R γ) (k : γ -> Hh -> R δ) : (r.bind f).bind k = r.bind fun b h => (f b h).bind k := by cases r <;> rfl
theorem we (tt : MT) (te : ME) (ee : D -> En) (all : List D) : ∀ (ds : List D) (i : Nat) (acc : List D) (h : Hh), all.drop i = ds -> eS (Src.snap all).rdr tt te ee ds.length i acc h = (ck tt te ee ds h).bind fun ys h' => .ok (acc ++ ys) h' := by
  intro ds
  induction ds with
  | nil =>
    intro i acc h e
    have : all[i]? = none := by
      have := congrArg List.length e
      simp at this
      exact List.getElem?_eq_none (by omega)
    unfold eS ck Src.rdr
    simp [this, R.bind]
  | cons d ds ih =>
    intro i acc h e
    have h0 : all[i]? = some d := by
      have := congrArg (fun l => l[0]?) e
      simpa using this
    have h1 : all.drop (i + 1) = ds := by
      have := congrArg List.tail e
      simpa using this
    unfold eS ck
    have : (Src.snap all).rdr h i = some (some d) := by unfold Src.rdr; simp [h0]
    rw [this]
    show ((tt (ee d) h).bind _) = _
    rw [bg]
    congr 1
    funext b h2
    cases b with
    | false => rw [if_neg Bool.false_ne_true, if_neg Bool.false_ne_true]; exact ih (i + 1) acc h2 h1
    | true =>
      rw [if_pos rfl, if_pos rfl, bg]
      congr 1
      funext y h3
      rw [bg]
      have := ih (i + 1) (acc ++ [y]) h3 h1
      rw [this]
      congr 1
      funext ys h4
      show R.ok (acc ++ [y] ++ ys) h4 = R.ok (acc ++ (y :: ys)) h4
      simp
noncomputable def dk (nl : NL) (mi : MI) (ix : List Nat) (tt : MT) (te : ME) : ME := fun env h => (mi env h).bind fun sr h1 => if sr.fuel h1 <= 1000000 then
  (match sr with
    | .snap ds => ck tt te (gG ix env) ds h1
    | .live n => eS (Src.live n).rdr tt te (gG ix env) ((ax h1 n).getD []).length 0 [] h1
    | .liveE n => eS (Src.liveE n).rdr tt te (gG ix env) ((ax h1 n).getD []).length 0 [] h1).bind nl else .bad
theorem qL {nl : NL} {mi : MI} {ix : List Nat} {tt : MT} {te : ME} {env : En} {h : Hh} : dk nl mi ix tt te env h = (mi env h).bind fun sr h1 => if sr.fuel h1 <= 1000000 then (eS sr.rdr tt te (gG ix env) (sr.fuel h1) 0 [] h1).bind nl else .bad := by
  unfold dk
  congr 1
  funext sr h1
  cases sr with
  | snap ds =>
    have := we tt te (gG ix env) ds ds 0 [] h1 rfl
    simp only [List.nil_append] at this
    have e : (Src.snap ds).fuel h1 = ds.length := rfl
    rw [e, this, bg]
    rfl
  | live n => rfl
  | liveE n => rfl
theorem sy {K : PySem.W.Frag} {g : GG} {α : List Addr} {H : Hp} {env : En} {σ : St} {ix : List Nat} {d : D} {v : V} (s : iS K g α H env σ) (r : aB K g α H d v) : iS K g α H (gG ix env d) ((lR ix σ).set 0 (some v)) := by
  refine ⟨by simp [gG, lR], fun i e h => ?_⟩
  cases i with
  | zero =>
    have : d = e := by simpa [gG] using h
    subst this
    exact ⟨v, by simp [lR], r⟩
  | succ i =>
    have h' : (ix.map fun i => (env[i]?).join)[i]? = some (some e) := by simpa [gG] using h
    rw [List.getElem?_map] at h'
    cases ei : ix[i]? with
    | none => rw [ei] at h'; cases h'
    | some j =>
      rw [ei] at h'
      have h2 : (env[j]?).join = some e := by simpa using h'
      cases ej : env[j]? with
      | none => rw [ej] at h2; cases h2
      | some oe =>
        rw [ej] at h2
        have h3 : oe = some e := by simpa using h2
        subst h3
        obtain ⟨u, eu, ru⟩ := s.vars j e ej
        refine ⟨u, ?_, ru⟩
        simp only [lR, List.set_cons_zero, List.getElem?_cons_succ, List.getElem?_map, ei, Option.map_some, eu]
        rfl
section
variable {X : Cx} {g : GG}
theorem iP : PTs X [] (tMT X.K g E00 tt1) := fun pins s σ H Q I ⟨α, env, h, s', w⟩ => x9 pins s σ H Q I (w H α Ext.refl s'.heap)
theorem AQ {c : Expr} {mt : MT} (h : PT X c (tMT X.K g E00 mt)) : PTs X [c] (tMT X.K g E00 mt) := yz h
theorem wa {K : PySem.W.Frag} {nl : NL} [gq nl] {mi : MI} {tt : MT} {te : ME} {ix : List Nat} {σ : St} {H : Hp} {Q R : VK} (hR : ∀ v H, fW Q v H -> R v H) (t : tM K g E00 (dk nl mi ix tt te) σ H Q) : zB (tMI K g E00 mi) ix (tMT K g E00 tt) (tM K g E00 te) σ H R := by
  obtain ⟨α, env, h, s, w⟩ := t
  rw [qL] at w
  refine ⟨α, env, h, s, w.bind.mono fun sr h1 _ w1 J H1 α1 e1 hr1 rd => fun acc hacc => ?_⟩
  obtain ⟨hf, w1⟩ := WQ.eW w1
  have s1 := s.ext e1 hr1
  refine ⟨fun i m ys H => ∃ α h as, Ext K α1 H1 α H /\ aN K g α H h /\ ar K g α H as ys /\ H acc = some (.lst ys) /\ acc ∉ α /\ as.length + m <= 1000000 ∧
    WQ K g E00 α1 H1 ((eS sr.rdr tt te (gG ix env) m i as h).bind nl) (aF K g α1 H1 Q),
    ⟨sr.fuel h1, α1, h1, [], Ext.fresh hacc, hr1.grow hacc, .nil, aR, hr1.free hacc, by simpa using hf, w1.post e1⟩, ?_⟩
  rintro i m ys H2 ⟨α2, h2, as, x2, hr2, ra, ha, hna, hm, w2⟩
  have q := rd α2 H2 h2 x2 hr2 i
  unfold eS at w2
  cases e : sr.rdr h2 i with
  | none => rw [e] at w2; exact w2.elim
  | some od =>
    rw [e] at w2 q
    cases od with
    | none =>
      refine .inl ⟨q, ?_⟩
      exact hR _ _ <| gq.at' (show WQ K g E00 α1 H1 (nl as h2) _ from w2) (fun _ _ z => z) x2 hr2 ra ha hna hacc
    | some d =>
      cases m with
      | zero => exact w2.elim
      | succ m =>
        rw [bg] at w2
        have w3 := WQ.bind (show WQ K g E00 α1 H1 ((tt (gG ix env d) h2).bind _) _ from w2)
        refine .inr ⟨q.1, fun x H3 y => ?_⟩
        obtain ⟨α3, x3, hr3, rx⟩ := q.2 x H3 y
        have ha3 := x3.keep _ _ ha hna
        have hna3 : acc ∉ α3 := fun z => by have := x3.new _ z hna; rw [ha] at this; cases this
        have s3 : cz K g α3 H3 (gG ix env d) ((lR ix σ).set 0 (some x)) h2 := ⟨hr3, sy (s1.vs.ext (x2.trans x3)) rx⟩
        refine tMT.use s3 ((w3.ext x2).ext x3) fun b h4 H4 α4 x4 s4 w4 => ?_
        have ha4 := x4.keep _ _ ha3 hna3
        have hna4 : acc ∉ α4 := fun z => by have := x4.new _ z hna3; rw [ha3] at this; cases this
        cases b with
        | false =>
          rw [if_neg Bool.false_ne_true] at w4 ⊢
          exact ⟨m, Nat.lt_succ_self _, α4, h4, as, x2.trans (x3.trans x4), s4.heap, ra.ext (x3.trans x4), ha4, hna4, by omega, w4⟩
        | true =>
          rw [if_pos rfl] at w4 ⊢
          rw [bg] at w4
          refine tM.use s4 (((WQ.bind w4).ext x2).ext (x3.trans x4)) fun y h5 v5 H5 α5 x5 s5 r5 w5 => ?_
          have ha5 := x5.keep _ _ ha4 hna4
          have hna5 : acc ∉ α5 := fun z => by have := x5.new _ z hna4; rw [ha4] at this; cases this
          have soft : xy H5 acc := .inr ⟨_, ha5, fun _ z => (nomatch z), fun _ _ z => nomatch z⟩
          have x6 : Ex0 K α5 H5 α5 (upd H5 acc (.lst (ys ++ [v5]))) := Ex0.upd soft
          have tr := x2.trans (x3.trans (x4.trans x5))
          refine ⟨ha5, ?_, m, Nat.lt_succ_self _, α5, h5, as ++ [y], ⟨tr.toEx0.trans x6, fun p o z n => ?_, tr.new⟩, s5.heap.off soft hna5, ((ra.ext (x3.trans (x4.trans x5))).append (.cons r5 .nil)).ex0 x6, aR, hna5, by rw [List.length_append]; simp; omega, w5⟩
          · rw [<- ra.length, sizeLine_eq]; omega
          · rw [aE (bD z hacc)]; exact tr.keep p o z n
noncomputable def unp {β : Type} (m : En -> Hh -> R β) : En -> Hh -> R β := fun env h => match env with
  | some (.tup [x, y]) :: r => m (some x :: some y :: r) h
  | _ => .bad
theorem zU {K : PySem.W.Frag} {g : GG} {ε : EE} {α α' : List Addr} {H H' : Hp} {β : Type} {m : En -> Hh -> R β} {d : D} {x : V} {r : En} {h : Hh} {k : β -> Hh -> Prop} (rx : aB K g α H d x) (w : WQ K g ε α' H' (unp m (some d :: r) h) k) :
    ∃ a b p va vb, d = .tup [a, b] /\ x = .ref p /\ H p = some (.tup [va, vb]) /\ aB K g α H a va /\ aB K g α H b vb /\ WQ K g ε α' H' (m (some a :: some b :: r) h) k := by
  cases rx with
  | tup hp rs =>
    cases rs with
    | nil => exact w.elim
    | cons ra rr =>
      cases rr with
      | nil => exact w.elim
      | cons rb rr =>
        cases rr with
        | nil => exact ⟨_, _, _, _, _, rfl, rfl, hp, ra, rb, w⟩
        | cons _ _ => exact w.elim
  | _ => exact w.elim
theorem wF {K : PySem.W.Frag} {g : GG} {α : List Addr} {H : Hp} {env : En} {σ : St} {ix : List Nat} {d e : D} {v u : V} (s : iS K g α H env σ) (r : aB K g α H d v) (q : aB K g α H e u) : iS K g α H (some d :: some e :: ix.map fun i => (env[i]?).join) (some v :: some u :: ix.map fun i => (σ[i]?).join) := by
  have z := sy (ix := ix) s q
  have e1 : (lR ix σ).set 0 (some u) = some u :: ix.map fun i => (σ[i]?).join := rfl
  rw [e1] at z
  refine ⟨by simp, fun i x h => ?_⟩
  cases i with
  | zero => have : d = x := by simpa using h
            subst this; exact ⟨v, rfl, r⟩
  | succ i =>
    obtain ⟨y, ey, ry⟩ := z.vars i x (by simpa [gG] using h)
    exact ⟨y, by simpa using ey, ry⟩
theorem uc {K : PySem.W.Frag} {nl : NL} [gq nl] {mi : MI} {tt : MT} {te : ME} {ix : List Nat} {σ : St} {H : Hp} {Q R : VK} (hR : ∀ v H, fW Q v H -> R v H) (t : tM K g E00 (dk nl mi ix (unp tt) (unp te)) σ H Q) : pv (tMI K g E00 mi) 2 ix (wx K 2 (i9 (fw 0) (i9 (fw 1) vc))) (tMT K g E00 tt) (tM K g E00 te) σ H R := by
  obtain ⟨α, env, h, s, w⟩ := t
  rw [qL] at w
  refine ⟨α, env, h, s, w.bind.mono fun sr h1 _ w1 J H1 α1 e1 hr1 rd => fun acc hacc => ?_⟩
  obtain ⟨hf, w1⟩ := WQ.eW w1
  have s1 := s.ext e1 hr1
  refine ⟨fun i m ys H => ∃ α h as, Ext K α1 H1 α H /\ aN K g α H h /\ ar K g α H as ys /\ H acc = some (.lst ys) /\ acc ∉ α /\ as.length + m <= 1000000 ∧
    WQ K g E00 α1 H1 ((eS sr.rdr (unp tt) (unp te) (gG ix env) m i as h).bind nl) (aF K g α1 H1 Q),
    ⟨sr.fuel h1, α1, h1, [], Ext.fresh hacc, hr1.grow hacc, .nil, aR, hr1.free hacc, by simpa using hf, w1.post e1⟩, ?_⟩
  rintro i m ys H2 ⟨α2, h2, as, x2, hr2, ra, ha, hna, hm, w2⟩
  have q := rd α2 H2 h2 x2 hr2 i
  unfold eS at w2
  cases e : sr.rdr h2 i with
  | none => rw [e] at w2; exact w2.elim
  | some od =>
    rw [e] at w2 q
    cases od with
    | none =>
      refine .inl ⟨q, ?_⟩
      exact hR _ _ <| gq.at' (show WQ K g E00 α1 H1 (nl as h2) _ from w2) (fun _ _ z => z) x2 hr2 ra ha hna hacc
    | some d =>
      cases m with
      | zero => exact w2.elim
      | succ m =>
        rw [bg] at w2
        have w3 := WQ.bind (show WQ K g E00 α1 H1 ((unp tt (gG ix env d) h2).bind _) _ from w2)
        refine .inr ⟨q.1, fun σ0 x H3 ⟨ts, tl, e0⟩ y => ?_⟩
        obtain ⟨α3, x3, hr3, rx⟩ := q.2 x H3 y
        have ha3 := x3.keep _ _ ha hna
        have hna3 : acc ∉ α3 := fun z => by have := x3.new _ z hna; rw [ha] at this; cases this
        obtain ⟨da, db, pp, va, vb, rfl, rfl, hq, rda, rdb, w3'⟩ := zU rx ((w3.ext x2).ext x3)
        obtain ⟨t0, t1, rfl⟩ : ∃ t0 t1, ts = [t0, t1] := by
          match ts, tl with
          | [t0, t1], _ => exact ⟨t0, t1, rfl⟩
        subst e0
        refine ⟨_, _, rfl, SqT.of hq, rfl, _, _, rfl, _, _, rfl, rfl, ⟨[some va, some vb], rfl, rfl⟩, ?_⟩
        have s3 : cz K g α3 H3 (some da :: some db :: ix.map fun i => (env[i]?).join) (some va :: some vb :: ix.map fun i => (σ[i]?).join) h2 := ⟨hr3, wF (s1.vs.ext (x2.trans x3)) rda rdb⟩
        refine tMT.use s3 w3' fun b h4 H4 α4 x4 s4 w4 => ?_
        have ha4 := x4.keep _ _ ha3 hna3
        have hna4 : acc ∉ α4 := fun z => by have := x4.new _ z hna3; rw [ha3] at this; cases this
        cases b with
        | false =>
          rw [if_neg Bool.false_ne_true] at w4 ⊢
          exact ⟨m, Nat.lt_succ_self _, α4, h4, as, x2.trans (x3.trans x4), s4.heap, ra.ext (x3.trans x4), ha4, hna4, by omega, w4⟩
        | true =>
          rw [if_pos rfl] at w4 ⊢
          rw [bg] at w4
          refine tM.use s4 (((WQ.bind w4).ext x2).ext (x3.trans x4)) fun y h5 v5 H5 α5 x5 s5 r5 w5 => ?_
          have ha5 := x5.keep _ _ ha4 hna4
          have hna5 : acc ∉ α5 := fun z => by have := x5.new _ z hna4; rw [ha4] at this; cases this
          have soft : xy H5 acc := .inr ⟨_, ha5, fun _ z => (nomatch z), fun _ _ z => nomatch z⟩
          have x6 : Ex0 K α5 H5 α5 (upd H5 acc (.lst (ys ++ [v5]))) := Ex0.upd soft
          have tr := x2.trans (x3.trans (x4.trans x5))
          refine ⟨ha5, ?_, m, Nat.lt_succ_self _, α5, h5, as ++ [y], ⟨tr.toEx0.trans x6, fun p o z n => ?_, tr.new⟩, s5.heap.off soft hna5, ((ra.ext (x3.trans (x4.trans x5))).append (.cons r5 .nil)).ex0 x6, aR, hna5, by rw [List.length_append]; simp; omega, w5⟩
          · rw [<- ra.length, sizeLine_eq]; omega
          · rw [aE (bD z hacc)]; exact tr.keep p o z n
theorem pg2 {X : Cx} {x y : Str} {px py pt : Pos} {kt : Nat} (hc : X.calm = true) (hn : X.N.Nodup) (h0 : X.N[0]? = some x) (h1 : X.N[1]? = some y) (hx : Loc X.env.scope x /\ X.env.scope.names.lookup x = some .local) (hy : Loc X.env.scope y /\ X.env.scope.names.lookup y = some .local) :
    PG X (.Tuple [.Name x px, .Name y py] kt pt) (wx X.K 2 (i9 (fw 0) (i9 (fw 1) vc))) := rK hc (fB (bz hn h0 hx.1 (.inr hx.2)) (fB (bz hn h1 hy.1 (.inr hy.2)) pI))
theorem gB {nl : NL} [gq nl] {elt iter : Expr} {x y : Str} {px py pt : Pos} {kt : Nat} {ifs : List Expr} {scope osc : Scope} {pos : Pos} {mi : MI} {tt : MT} {te : ME} (ix : List Nat) (N' : List Str)
    (hxe : X.xe = fun _ _ => False) (hc : X.calm = true) (ho : X.env.scope = osc) (hN : N' = [x, y] ++ ix.map fun i => (X.N[i]?).getD ("" : Str)) (hnd : N'.Nodup)
    (hall : (∀ y ∈ scope.names, y.2 = .free -> osc.names.lookup y.1 = some .cell) /\ (∀ y ∈ scope.names, y.2 ≠ .cell) /\ scope.kind = .function /\ (∀ y ∈ scope.names, y.2 = .local -> scope.names.lookup y.1 = some .local) /\ (∀ z ∈ N'.drop [x, y].length, scope.names.lookup z = some .free))
    (hi : PI X (.Tuple [.Name x px, .Name y py] kt pt) iter (tMI X.K g E00 mi))
    (hx : ∀ cl C aH aQ fp, Loc (bV X scope cl C aH aQ fp N').env.scope x /\ (bV X scope cl C aH aQ fp N').env.scope.names.lookup x = some .local) (hy : ∀ cl C aH aQ fp, Loc (bV X scope cl C aH aQ fp N').env.scope y /\ (bV X scope cl C aH aQ fp N').env.scope.names.lookup y = some .local)
    (ht : ∀ cl C aH aQ fp, PTs (bV X scope cl C aH aQ fp N') ifs (tMT X.K g E00 tt))
    (he : ∀ cl C aH aQ fp, PE (bV X scope cl C aH aQ fp N') elt (tM X.K g E00 te))
    (hs : ∀ x, foldedSetIterable iter X.env x = pure x := by intro _; rfl) :
    PE X (.ListComp elt [⟨.Tuple [.Name x px, .Name y py] kt pt, iter, ifs, 0⟩] scope pos) (tM X.K g E00 (dk nl mi ix (unp tt) (unp te))) := by
  refine PE.imp (PE.frz (qJ (tgr := wx X.K 2 (i9 (fw 0) (i9 (fw 1) vc))) ix [x, y] N' hxe hc ho hN hnd hall hi (fun cl C aH aQ fp => pg2 (X := bV X scope cl C aH aQ fp N') hc hnd (show N'[0]? = some x by rw [hN]; rfl) (show N'[1]? = some y by rw [hN]; rfl) (hx cl C aH aQ fp) (hy cl C aH aQ fp)) ht he hs)) fun σ H Q t => ?_
  exact uc (fun _ _ z => z) t
end
noncomputable def sml (i : Int) : Bool := decide (i.natAbs < 2 ^ 1900)
theorem l6 {i : Int} (h : sml i = true) : Builtin.Int.intBits i <= 1900 := by
  have h' : i.natAbs < 2 ^ 1900 := of_decide_eq_true h
  unfold Builtin.Int.intBits
  split
  · omega
  · rename_i z
    have z' : i.natAbs ≠ 0 := by
      intro q
      apply z
      have : i = 0 := Int.natAbs_eq_zero.mp q
      rw [this]; rfl
    have := (Nat.log2_lt z').mpr h'
    omega
theorem xN {i : Int} (h : sml i = true) : i.natAbs.log2 < 1900 := by
  have h' : i.natAbs < 2 ^ 1900 := of_decide_eq_true h
  by_cases z : i.natAbs = 0
  · rw [z]; decide
  · exact (Nat.log2_lt z).mpr h'
theorem pP {i : Int} (h : i.natAbs <= 10 ^ 560) : sml i = true := by
  refine decide_eq_true (Nat.lt_of_le_of_lt h (by decide +kernel))
section
variable {X : Cx} {K : PySem.W.Frag} {g : GG} {ε : EE}
theorem OpR.or {f : Value -> Value -> Sem Value} {r r' : R2} (h : OpR X f r) (h' : OpR X f r') : OpR X f (fun x y H Q => r x y H Q \/ r' x y H Q) := fun pins s σ H x y v u Q I rx ry q => q.elim (h pins s σ H x y v u Q I rx ry) (h' pins s σ H x y v u Q I rx ry)
noncomputable def jo (d : D) (h : Hh) : Option (List D) := match d with
  | .frl ds => some ds
  | .ref n => ax h n
  | _ => none
theorem oR {α : List Addr} {H : Hp} {h : Hh} {d : D} {x : V} {ds : List D} (r : aN K g α H h) (rd : aB K g α H d x) (e : jo d h = some ds) : ∃ p vs, x = .ref p /\ Rd H p (.lst vs) /\ ar K g α H ds vs := by
  unfold jo at e
  cases rd with
  | frl hq rs => cases e; exact ⟨_, _, rfl, hq.rd, rs⟩
  | ref hp => obtain ⟨vs, hv, rs⟩ := r.lst e hp; exact ⟨_, vs, rfl, .inl hv, rs⟩
  | _ => cases e
noncomputable def zH : R2 := fun x y H Q => ∃ l b xs zs, x = .ref l /\ y = .ref b /\ Rd H l (.lst xs) /\ Rd H b (.lst zs) /\ xs.length + zs.length <= sizeLine /\ ∀ p, H p = none -> Q (.ref p) (upd H p (.lst (xs ++ zs)))
theorem xP {X : Cx} {pins : List (Addr × Obj)} {σ : St} {H : Hp} {s : Shared} {l : Addr} {xs : List V} (I : Inv X pins σ H s) (h : Rd H l (.lst xs)) : ∃ (its : List Value) (n : Nat), xs.length <= sizeLine /\ Vals xs its /\ xs.length = its.length /\ s.heap.get? l = some { cls := .type "list", data := .seq its.toArray n } := by
  obtain ⟨z, its, n, r, e⟩ := h.ok I.hok
  exact ⟨its, n, z, r, r.length, e⟩
theorem zb : OpR X (binaryOp .Add) zH := by
  intro pins s σ H x y v u Q I rx ry h
  obtain ⟨l, b, xs, zs, rfl, rfl, hH, hB, hz, q⟩ := h
  cases rx
  cases ry
  obtain ⟨its, n, z, r, hl, e⟩ := xP I hH
  obtain ⟨its2, n2, z2, r2, hl2, e2⟩ := xP I hB
  refine PySem.P.add_list e e2 ?_ (by rw [List.size_toArray, List.size_toArray]; omega)
  have ea : its.toArray ++ its2.toArray = (its ++ its2).toArray := by simp
  rw [ea]
  exact ⟨.ref _, _, I.Bz (t' := s.toks) (r.append r2) (by rw [List.length_append]; omega), rfl, q _ I.fresh⟩
noncomputable def bb (nl : NL) : D -> D -> Hh -> R D := fun x y h => match x, y with
  | .int i, .int j => .ok (.int (i + j)) h
  | .tup a, .tup b => if a.length + b.length <= 1000000 then .ok (.tup (a ++ b)) h else .bad
  | .str a, .str b => if a.length + b.length <= 1000000 then .ok (.str (a ++ b)) h else .bad
  | x, y => match jo x h, jo y h with
    | some a, some b => if a.length + b.length <= 1000000 then nl (a ++ b) h else .bad
    | _, _ => .bad
noncomputable abbrev vo (K : PySem.W.Frag) : R2 := fun x y H Q => (rI0 fun i j => .int (i + j)) x y H Q \/ (zD K x y H Q \/ xw K x y H Q) \/ zH x y H Q \/ ∃ i j, x = .str i /\ y = .str j /\ i.length + j.length <= sizeLine /\ Q (.str (i ++ j)) H
theorem bq : OpR X (binaryOp .Add) (fun x y H Q => vo X.K x y H (fW Q)) := OpR.frz (OpR.or Bk (OpR.or (OpR.or yY wM) (OpR.or zb rJ)))
theorem aF.uf {α : List Addr} {H : Hp} {h : Hh} {Q : VK} {d : D} {v : V} (p : aF K g α H Q d h) (r : aN K g α H h) (rd : aB K g α H d v) : fW Q v H := .inl (p.now r rd)
theorem bo {nl : NL} [gq nl] : de K g ε (bb nl) (fun x y H Q => vo K x y H (fW Q)) := by
  intro α H h a b x y Q r ra rb w
  have gen : ∀ {a b : D} {x y : V}, aB K g α H a x -> aB K g α H b y -> WQ K g ε α H (match jo a h, jo b h with
    | some a, some b => if a.length + b.length <= 1000000 then nl (a ++ b) h else .bad
    | _, _ => .bad) (aF K g α H Q) -> vo K x y H (fW Q) := by
    intro a b x y ra rb w
    cases e1 : jo a h with
    | none => simp only [e1] at w; exact w.elim
    | some da =>
      cases e2 : jo b h with
      | none => simp only [e1, e2] at w; exact w.elim
      | some db =>
        simp only [e1, e2] at w
        obtain ⟨p, va, rfl, hva, rsa⟩ := oR r ra e1
        obtain ⟨q, vb, rfl, hvb, rsb⟩ := oR r rb e2
        obtain ⟨hl, w⟩ := WQ.eW w
        refine .inr (.inr (.inl ⟨p, q, va, vb, rfl, rfl, hva, hvb, eU (by rw [<- rsa.length, <- rsb.length]; exact hl), fun l hl' => ?_⟩))
        exact NL.post w r (rsa.append rsb) hl'
  unfold bb at w
  split at w
  · cases ra
    cases rb
    exact .inl ⟨_, _, rfl, rfl, aF.uf w r (.int _)⟩
  · cases ra with
    | @tup da pa va ha rsa =>
      cases rb with
      | @tup db pb vb hb rsb =>
        obtain ⟨hl, w⟩ := WQ.eW w
        refine .inr (.inl ?_)
        cases va with
        | nil =>
          cases rsa
          exact .inr ⟨_, _, _, rfl, rfl, SqT.of ha, SqT.of hb, aF.uf w r (.tup hb rsb)⟩
        | cons z zs =>
          refine .inl ⟨_, _, _, _, rfl, rfl, SqT.of ha, SqT.of hb, by simp, eU (by rw [<- rsa.length, <- rsb.length]; exact hl), fun e => ?_, fun _ p hp => .inl (aF.tup w r (rsa.append rsb) hp)⟩
          subst e
          cases rsb
          refine aF.uf w r (.tup ha ?_)
          rw [List.append_nil]; exact rsa
  · cases ra
    cases rb
    obtain ⟨hl, w⟩ := WQ.eW w
    exact .inr (.inr (.inr ⟨_, _, rfl, rfl, eU hl, aF.uf w r (.str _)⟩))
  · exact gen ra rb w
noncomputable def cS : D -> D -> Hh -> R D
  | .int i, .int j, h => .ok (.int (i - j)) h
  | _, _, _ => .bad
theorem eD : de K g ε cS (rI0 fun i j => .int (i - j)) := by
  intro α H h a b x y Q r ra rb w
  unfold cS at w
  cases ra with
  | int i =>
    cases rb with
    | int j => exact ⟨i, j, rfl, rfl, aF.now w r (.int _)⟩
    | _ => exact w.elim
  | _ => exact w.elim
noncomputable def zC : R2 := fun x y H Q => ∃ l k xs, x = .ref l /\ y = .int k /\ Rd H l (.lst xs) /\ -(2 ^ 63) <= k /\ k < 2 ^ 63 /\ xs.length * k.toNat <= sizeLine ∧
  ∀ p, H p = none -> Q (.ref p) (upd H p (.lst (List.replicate k.toNat xs).flatten))
theorem yE : OpR X (binaryOp .Mult) zC := by
  intro pins s σ H x y v u Q I rx ry h
  obtain ⟨l, k, xs, rfl, rfl, hH, h1, h2, hz, q⟩ := h
  cases rx
  obtain ⟨t, rfl⟩ := ry
  obtain ⟨its, n, z, r, hl, e⟩ := xP I hH
  have hlen : its.toArray.size * k.toNat <= sizeLine := by rw [List.size_toArray, <- hl]; exact hz
  have hcap : ¬ its.toArray.size * k.toNat > (2 ^ 63 - 1) / 8 := by
    have : (sizeLine : Nat) <= (2 ^ 63 - 1) / 8 := by decide
    omega
  have hfit : ¬ (!Builtin.List.listFitsIndex k) = true := by
    rw [fitsIndex_both h1 h2]
    exact Bool.false_ne_true
  have hlong : ¬ Builtin.List.listTooLong (its.toArray.size * k.toNat) = true := by
    rw [p9 hlen]
    exact Bool.false_ne_true
  have hnew : List.foldl (fun x1 x2 => x1 ++ x2) #[] (List.replicate (if its.toArray.isEmpty = true then 0 else k.toNat) its.toArray) = (List.replicate k.toNat its).flatten.toArray := by
    have f0 : ∀ m : Nat, List.foldl (fun x1 x2 => x1 ++ x2) #[] (List.replicate m its.toArray) = (List.replicate m its).flatten.toArray := fun m => by
      have := foldl_rep its m []
      rw [List.nil_append] at this
      exact this
    rw [f0]
    cases its with
    | nil => simp
    | cons a r' => rw [if_neg (by simp)]
  refine wpAny_binaryOp_repeat_ref (T := "list") (U := "int") (by decide) ⟨_, e, rfl⟩ (fun s' => typeIs_int s' k t) noFill_list_mul F.fills_int_mul F.slot_int_rmul repeat_list F.slot_int_index.lookup
    (call_meets F.slot_int_rmul (typeIs_int s k t) F.entry_int_rmul (F.args_int_rmul_2 _ _) (int___rmul___int_list k t l its.toArray n)
      ⟨e, rfl, ⟨_, e, rfl⟩, call_meets F.slot_list_mul ⟨_, e, rfl⟩ F.entry_list_mul (F.args_list_mul_2 _ _) (AutoListH.list___mul___list_int_3 l its.toArray n k t hfit hcap hlong) ⟨e, ?_⟩⟩)
  rw [hnew]
  exact ⟨.ref _, _, I.Bz (t' := s.toks) (r.rep k.toNat) (by rw [len_rep, Nat.mul_comm]; exact hz), rfl, q _ I.fresh⟩
noncomputable def dM (nl : NL) : D -> D -> Hh -> R D := fun x y h => match x, y with
  | .int i, .int j => if sml i = true /\ sml j = true then .ok (.int (i * j)) h else .bad
  | x, .int k => match jo x h with
    | some ds => if k.natAbs <= 1000000 /\ ds.length * k.toNat <= 1000000 then nl (List.replicate k.toNat ds).flatten h else .bad
    | none => .bad
  | _, _ => .bad
theorem yi : OpR X (binaryOp .Mult) (rI (fun i j => sml i = true /\ sml j = true) fun i j => .int (i * j)) := opI fun _ _ _ _ _ _ _ hc q => mul_int q (IntMulOk.of_bits (Nat.le_trans (l6 hc.1) (by decide)) (Nat.le_trans (l6 hc.2) (by decide)))
noncomputable abbrev u_ : R2 := fun x y H Q => (rI (fun i j => sml i = true /\ sml j = true) fun i j => .int (i * j)) x y H Q \/ zC x y H Q
theorem fk : OpR X (binaryOp .Mult) (fun x y H Q => u_ x y H (fW Q)) := OpR.frz (OpR.or yi yE)
theorem fe {nl : NL} [gq nl] : de K g ε (dM nl) (fun x y H Q => u_ x y H (fW Q)) := by
  intro α H h a b x y Q r ra rb w
  have gen : ∀ {a : D} {k : Int} {x : V}, aB K g α H a x -> WQ K g ε α H (match jo a h with
    | some ds => if k.natAbs <= 1000000 /\ ds.length * k.toNat <= 1000000 then nl (List.replicate k.toNat ds).flatten h else .bad
    | none => .bad) (aF K g α H Q) -> u_ x (.int k) H (fW Q) := by
    intro a k x ra w
    cases e1 : jo a h with
    | none => simp only [e1] at w; exact w.elim
    | some ds =>
      simp only [e1] at w
      obtain ⟨hl, w⟩ := WQ.eW w
      obtain ⟨p, vs, rfl, hv, rs⟩ := oR r ra e1
      refine .inr ⟨p, k, vs, rfl, rfl, hv, by omega, by omega, eU (by rw [<- rs.length]; exact hl.2), fun l hl' => ?_⟩
      exact NL.post w r (rs.flat k.toNat) hl'
  unfold dM at w
  split at w
  · cases ra
    cases rb
    obtain ⟨hc, w⟩ := WQ.eW w
    exact .inl ⟨_, _, rfl, rfl, hc, aF.uf w r (.int _)⟩
  · cases rb
    exact gen ra w
  · exact w.elim
noncomputable def r_ : D -> D -> Hh -> R D
  | .int i, .int j, h => if 0 < j /\ sml j = true then .ok (.int (i / j)) h else .bad
  | _, _, _ => .bad
theorem lF : OpR X (binaryOp .FloorDiv) (rI (fun i j => 0 < j /\ sml j = true) fun i j => .int (i / j)) := opI fun i j _ _ _ _ _ hc q => by
  have e : i.fdiv j = i / j := Int.fdiv_eq_ediv_of_nonneg _ (by omega)
  refine floordiv_int (by omega) ?_ (.inl (PyProof.noPylong_of_log2 (Nat.lt_trans (xN hc.2) (by decide))))
  rw [e]; exact q
theorem rm : de K g ε r_ (rI (fun i j => 0 < j /\ sml j = true) fun i j => .int (i / j)) := by
  intro α H h a b x y Q r ra rb w
  unfold r_ at w
  cases ra with
  | int i =>
    cases rb with
    | int j =>
      obtain ⟨hc, w⟩ := WQ.eW w
      exact ⟨i, j, rfl, rfl, hc, aF.now w r (.int _)⟩
    | _ => exact w.elim
  | _ => exact w.elim
noncomputable def qf : D -> D -> Hh -> R D
  | .int i, .int j, h => if 0 < j then .ok (.int (i % j)) h else .bad
  | _, _, _ => .bad
theorem kS : de K g ε qf (rI (fun _ j => 0 < j) fun i j => .int (i % j)) := by
  intro α H h a b x y Q r ra rb w
  unfold qf at w
  cases ra with
  | int i =>
    cases rb with
    | int j =>
      obtain ⟨hc, w⟩ := WQ.eW w
      exact ⟨i, j, rfl, rfl, hc, aF.now w r (.int _)⟩
    | _ => exact w.elim
  | _ => exact w.elim
noncomputable def zp : D -> D -> Hh -> R D
  | .int i, .int j, h => if 0 <= j /\ j.natAbs <= 1000 /\ sml i = true then .ok (.int (i ^ j.toNat)) h else .bad
  | _, _, _ => .bad
theorem zq : OpR X (binaryOp .Pow) (rI (fun i j => 0 <= j /\ j.natAbs <= 1000 /\ sml i = true) fun i j => .int (i ^ j.toNat)) := opI fun i j _ _ _ _ _ hc q => pow_int hc.1 (by
  have := l6 hc.2.2
  have h1 : ((Builtin.Int.intBits i : Nat) : Int) <= 1900 := by exact_mod_cast this
  calc ((Builtin.Int.intBits i : Nat) : Int) * j <= 1900 * j := Int.mul_le_mul_of_nonneg_right h1 hc.1
    _ <= 1900 * 1000 := Int.mul_le_mul_of_nonneg_left (show j <= 1000 by have := hc.2.1; omega) (by decide)
    _ <= 2 ^ 27 := by decide) q
theorem Ad : de K g ε zp (rI (fun i j => 0 <= j /\ j.natAbs <= 1000 /\ sml i = true) fun i j => .int (i ^ j.toNat)) := by
  intro α H h a b x y Q r ra rb w
  unfold zp at w
  cases ra with
  | int i =>
    cases rb with
    | int j =>
      obtain ⟨hc, w⟩ := WQ.eW w
      exact ⟨i, j, rfl, rfl, hc, aF.now w r (.int _)⟩
    | _ => exact w.elim
  | _ => exact w.elim
noncomputable def ue (p : Int -> Int -> Bool) : D -> D -> Hh -> R D
  | .int i, .int j, h => .ok (.bl (p i j)) h
  | _, _, _ => .bad
noncomputable def ltI : Int -> Int -> Bool
  | .ofNat a, .ofNat b => Nat.blt a b
  | .ofNat _, .negSucc _ => false
  | .negSucc _, .ofNat _ => true
  | .negSucc a, .negSucc b => Nat.blt b a
theorem k_ : ltI = fun i j => decide (i < j) := by
  funext i j
  cases i with
  | ofNat a =>
    cases j with
    | ofNat b =>
      show Nat.blt a b = _
      rw [Bool.eq_iff_iff, Nat.blt_eq, decide_eq_true_iff]
      exact Int.ofNat_lt.symm
    | negSucc b => exact (decide_eq_false (by have : Int.ofNat a = (a : Int) := rfl; omega)).symm
  | negSucc a =>
    cases j with
    | ofNat b => exact (decide_eq_true (by have : Int.ofNat b = (b : Int) := rfl; omega)).symm
    | negSucc b =>
      show Nat.blt b a = _
      rw [Bool.eq_iff_iff, Nat.blt_eq, decide_eq_true_iff]
      omega
noncomputable def leI (i j : Int) : Bool := !ltI j i
theorem oH : leI = fun i j => decide (i <= j) := by
  funext i j
  unfold leI
  rw [k_, Bool.eq_iff_iff]
  simp
noncomputable def dLt : D -> D -> Hh -> R D := ue ltI
noncomputable def dLe : D -> D -> Hh -> R D := ue leI
noncomputable def dGt : D -> D -> Hh -> R D := ue fun i j => ltI j i
noncomputable def dGe : D -> D -> Hh -> R D := ue fun i j => leI j i
theorem pN {p : Int -> Int -> Bool} : de K g ε (ue p) (rI0 fun i j => .bl (p i j)) := by
  intro α H h a b x y Q r ra rb w
  unfold ue at w
  cases ra with
  | int i =>
    cases rb with
    | int j => exact ⟨i, j, rfl, rfl, aF.now w r (.bl _)⟩
    | _ => exact w.elim
  | _ => exact w.elim
theorem xt : de K g ε dLt (rI0 fun i j => .bl (decide (i < j))) := by
  unfold dLt; rw [k_]; exact pN
theorem nO : de K g ε dLe (rI0 fun i j => .bl (decide (i <= j))) := by
  unfold dLe; rw [oH]; exact pN
theorem wy : de K g ε dGt (rI0 fun i j => .bl (decide (j < i))) := by
  unfold dGt; rw [k_]; exact pN
theorem CO : de K g ε dGe (rI0 fun i j => .bl (decide (j <= i))) := by
  unfold dGe; rw [oH]; exact pN
noncomputable def gk (d : D) (h : Hh) : Option (List D) := match d with
  | .tup ds => some ds
  | .frl ds => some ds
  | .scr ds => some ds
  | .ref n => ax h n
  | _ => none
theorem o9 {α : List Addr} {H : Hp} {h : Hh} {d : D} {x : V} {ds : List D} (r : aN K g α H h) (rd : aB K g α H d x) (e : gk d h = some ds) : ∃ p vs, x = .ref p /\ (SqL K H p vs \/ SqT K H p vs) /\ ar K g α H ds vs := by
  unfold gk at e
  cases rd with
  | tup hq rs => cases e; exact ⟨_, _, rfl, .inr (SqT.of hq), rs⟩
  | frl hq rs => cases e; exact ⟨_, _, rfl, .inl hq.sq, rs⟩
  | scr hq rs => cases e; exact ⟨_, _, rfl, .inl hq.sq, rs⟩
  | ref hp => obtain ⟨vs, hv, rs⟩ := r.lst e hp; exact ⟨_, vs, rfl, .inl (SqL.of hv), rs⟩
  | _ => cases e
noncomputable def dIx : D -> D -> Hh -> R D := fun a b h => match gk a h, b with
  | some ds, .int i => match atI ds i with
    | some d => .ok d h
    | none => .bad
  | _, _ => .bad
theorem sN {α : List Addr} {H : Hp} {ds : List D} {vs : List V} {i : Int} {d : D} (rs : ar K g α H ds vs) (e : atI ds i = some d) : ∃ v, atI vs i = some v /\ aB K g α H d v := by
  unfold atI at e ⊢
  rw [<- rs.length]
  cases e1 : ixN ds.length i with
  | none => rw [e1] at e; cases e
  | some j =>
    rw [e1] at e
    exact rs.get e
theorem dS : de K g ε dIx (rIx K) := by
  intro α H h a b x y Q r ra rb w
  unfold dIx at w
  cases e1 : gk a h with
  | none => simp only [e1] at w; exact w.elim
  | some ds =>
    simp only [e1] at w
    obtain ⟨p, vs, rfl, hq, rs⟩ := o9 r ra e1
    cases rb with
    | int i =>
      cases e2 : atI ds i with
      | none => simp only [e2] at w; exact w.elim
      | some d =>
        simp only [e2] at w
        obtain ⟨v, ev, rv⟩ := sN rs e2
        rcases hq with hq | hq
        · exact .inl ⟨p, vs, i, v, rfl, rfl, hq, ev, aF.now w r rv⟩
        · exact .inr (.inl ⟨p, vs, i, v, rfl, rfl, hq, ev, aF.now w r rv⟩)
    | _ => exact w.elim
noncomputable def dF : D -> D -> D -> Hh -> R Unit := fun o i v h => match o, i with
  | .ref n, .int k => match ax h n with
    | some ds => match ixN ds.length k with
      | some j => .ok () (h.set n (.lst (ds.set j v)))
      | none => .bad
    | none => .bad
  | _, _ => .bad
theorem jq : Cg K g ε dF zN := by
  intro α H h o i v x y z Q r ro ri rv w
  unfold dF at w
  cases ro with
  | @ref n p hp =>
    cases ri with
    | int k =>
      cases e1 : ax h n with
      | none => simp only [e1] at w; exact w.elim
      | some ds =>
        simp only [e1] at w
        cases e2 : ixN ds.length k with
        | none => simp only [e2] at w; exact w.elim
        | some j =>
          simp only [e2] at w
          obtain ⟨vs, hv, rs⟩ := r.lst e1 hp
          refine ⟨p, vs, k, j, rfl, rfl, hv, by rw [<- rs.length]; exact e2, ?_⟩
          have x := Ext.write (o := .lst (vs.set j z)) r hp
          exact w _ α x (r.write hp ⟨_, aR, (rs.set rv j).ext x⟩)
    | _ => exact w.elim
  | _ => exact w.elim
noncomputable def cutD (xs : List D) (lo hi : Option Int) : List D := (xs.drop (HT.sIx xs.length 0 lo)).take (HT.sIx xs.length xs.length hi - HT.sIx xs.length 0 lo)
theorem ja {α : List Addr} {H : Hp} {ds : List D} {vs : List V} (rs : ar K g α H ds vs) (lo hi : Option Int) : ar K g α H (cutD ds lo hi) (mC vs lo hi) := by
  unfold cutD mC
  rw [<- rs.length]
  exact (rs.drop _).take _
noncomputable abbrev MO := En -> Hh -> R (Option Int)
noncomputable def nD (a : ME) : MO := fun env h => (a env h).bind fun d h1 => match d with
  | .int i => .ok (some i) h1
  | _ => .bad
noncomputable def tMO (K : PySem.W.Frag) (g : GG) (ε : EE) (m : MO) : TO := fun σ H Q => ∃ α env h, cz K g α H env σ h /\ WQ K g ε α H (m env h) fun o h' => ∀ H' α', Ext K α H α' H' -> aN K g α' H' h' -> Q o H'
theorem PO.imp {e : Option Expr} {t t' : TO} (h : PO X e t) (i : ∀ σ H Q, t' σ H Q -> t σ H Q) : PO X e t' := fun pins s σ H Q I w => h pins s σ H Q I (i σ H Q w)
theorem sT {e : Expr} {me : ME} (he : PE X e (tM X.K g ε me)) : PO X (some e) (tMO X.K g ε (nD me)) := PO.imp (yG he) fun σ H Q ⟨α, env, h, s, w⟩ => tM.use s w.bind fun d1 h1 v1 H1 α1 e1 s1 r1 w1 => by
  cases r1 with
  | int i => exact ⟨i, rfl, w1 H1 α1 e1 s1.heap⟩
  | _ => exact w1.elim
noncomputable def yN (nl : NL) : D -> Option Int -> Option Int -> Hh -> R D := fun d lo hi h => match d with
  | .tup ds => .ok (.tup (cutD ds lo hi)) h
  | .frl ds => nl (cutD ds lo hi) h
  | .scr ds => nl (cutD ds lo hi) h
  | .ref n => match ax h n with
    | some ds => nl (cutD ds lo hi) h
    | none => .bad
  | _ => .bad
noncomputable def pj (nl : NL) (a : ME) (l u : MO) : ME := fun env h => (a env h).bind fun x h1 => (l env h1).bind fun lo h2 => (u env h2).bind fun hi h3 => yN nl x lo hi h3
theorem tMO.use {α : List Addr} {H : Hp} {env : En} {σ : St} {h : Hh} {m : MO} {Q : Option Int -> Hp -> Prop} {k : Option Int -> Hh -> Prop} (s : cz K g α H env σ h) (w : WQ K g ε α H (m env h) k)
    (q : ∀ d h' H' α', Ext K α H α' H' -> cz K g α' H' env σ h' -> k d h' -> Q d H') : tMO K g ε m σ H Q :=
  ⟨α, env, h, s, w.mono fun d h' _ kk H' α' e r => q d h' H' α' e (s.ext e r) kk⟩
theorem vz {nl : NL} [gq nl] {e : Expr} {me : ME} {lo hi : Option Expr} {ml mh : MO} {p2 pos : Pos} (he : PE X e (tM X.K g ε me)) (hl : PO X lo (tMO X.K g ε ml)) (hu : PO X hi (tMO X.K g ε mh)) : PE X (.Subscript e (.Slice lo hi none p2) pos) (tM X.K g ε (pj nl me ml mh)) :=
  PE.imp (PE.frz (vm (SlR.or zo (SlR.or Ab yS)) he hl hu)) fun σ H Q ⟨α, env, h, s, w⟩ => tM.use s w.bind fun d1 h1 v1 H1 α1 e1 s1 r1 w1 => tMO.use s1 (w1.ext e1).bind fun o2 h2 H2 α2 e2 s2 w2 => tMO.use s2 (w2.ext e2).bind fun o3 h3 H3 α3 e3 s3 w3 => by
    have tr := e1.trans (e2.trans e3)
    have r3 := r1.ext (e2.trans e3)
    have w4 := (w3.ext e3).mono fun _ _ _ p => aF.ext tr p
    unfold yN at w4
    cases r3 with
    | @frl ds p vs hq rs => exact .inl ⟨_, _, rfl, hq.sq, fun l hl => NL.post w4 s3.heap (ja rs _ _) hl⟩
    | @scr ds p vs hq rs => exact .inl ⟨_, _, rfl, hq.sq, fun l hl => NL.post w4 s3.heap (ja rs _ _) hl⟩
    | @ref n p hp =>
      cases e1 : ax h3 n with
      | none => simp only [e1] at w4; exact w4.elim
      | some ds =>
        simp only [e1] at w4
        obtain ⟨vs, hv, rs⟩ := s3.heap.lst e1 hp
        exact .inl ⟨_, _, rfl, SqL.of hv, fun l hl => NL.post w4 s3.heap (ja rs _ _) hl⟩
    | @tup ds p vs hq rs =>
      refine .inr ?_
      by_cases hw : HT.sIx vs.length 0 o2 = 0 /\ HT.sIx vs.length vs.length o3 = vs.length
      · refine .inr ⟨_, _, rfl, SqT.of hq, hw.1, hw.2, ?_⟩
        refine aF.uf w4 s3.heap (.tup hq ?_)
        have : mC vs o2 o3 = vs := by unfold mC; rw [hw.1, hw.2]; simp
        have q := ja rs o2 o3
        rw [this] at q
        exact q
      · exact .inl ⟨_, _, rfl, SqT.of hq, hw, fun l hl => .inl (aF.tup w4 s3.heap (ja rs _ _) hl)⟩
    | _ => exact w4.elim
end
noncomputable def dG : D -> Bool
  | .non => true | .bl _ => true | .int _ => true | .str _ => true
  | _ => false
noncomputable def eqF : D -> D -> Bool
  | .non, .non => true
  | .bl a, .bl b => a == b
  | .bl a, .int b => (if a then 1 else 0) == b
  | .int a, .bl b => a == (if b then 1 else 0)
  | .int a, .int b => a == b
  | .str a, .str b => a == b
  | _, _ => false
noncomputable def eqL (f : D -> D -> Option Bool) : List D -> List D -> Option Bool
  | x :: xs, y :: ys => match f x y, eqL f xs ys with
    | some b, some c => some (b && c)
    | _, _ => none
  | [], [] => some true
  | _, _ => some false
inductive Vw where
  | fl | tp (ds : List D) | ls (ds : List D) | no
noncomputable def vw (d : D) (h : Hh) : Vw := match d with
  | .non => .fl | .bl _ => .fl | .int _ => .fl | .str _ => .fl
  | .tup ds => .tp ds
  | .frl ds => .ls ds
  | .scr ds => .ls ds
  | .ref n => match ax h n with
    | some ds => .ls ds
    | none => .no
  | _ => .no
noncomputable def eqD : Nat -> Hh -> D -> D -> Option Bool
  | 0, _, _, _ => none
  | k + 1, h, a, b => match vw a h, vw b h with
    | .fl, .fl => some (eqF a b)
    | .tp xs, .tp ys => eqL (eqD k h) xs ys
    | .ls xs, .ls ys => if xs.length = ys.length then eqL (eqD k h) xs ys else some false
    | .fl, .tp _ => some false
    | .fl, .ls _ => some false
    | .tp _, .fl => some false
    | .tp _, .ls _ => some false
    | .ls _, .fl => some false
    | .ls _, .tp _ => some false
    | _, _ => none
section
variable {K : PySem.W.Frag} {g : GG} {α : List Addr} {H : Hp} {h : Hh}
theorem kO {f : D -> D -> Option Bool} (hf : ∀ a b x c, aB K g α H a x -> aB K g α H b x -> f a b = some c -> c = true) : ∀ {xs ys : List D} {vs : List V} {c : Bool}, ar K g α H xs vs -> ar K g α H ys vs -> eqL f xs ys = some c -> c = true
  | _, _, _, _, .nil, .nil, e => by simp [eqL] at e; exact e
  | _, _, _, c, .cons r t, .cons r' t', e => by
    unfold eqL at e
    split at e
    · rename_i b c' h1 h2
      have e1 := hf _ _ _ _ r r' h1
      have e2 := kO hf t t' h2
      subst e1 e2
      exact (Option.some.inj e).symm
    · cases e
theorem j6 {d : D} {x : V} (rd : aB K g α H d x) (e : vw d h = .fl) : dG d = true := by
  cases rd with
  | ref hp => unfold vw at e; simp only at e; split at e <;> cases e
  | _ => first | rfl | cases e
theorem j3 {d : D} {x : V} {ds : List D} (rd : aB K g α H d x) (e : vw d h = .tp ds) : ∃ p vs, x = .ref p /\ SqT K H p vs /\ ar K g α H ds vs := by
  cases rd with
  | tup hp rs => cases e; exact ⟨_, _, rfl, SqT.of hp, rs⟩
  | ref hp => unfold vw at e; simp only at e; split at e <;> cases e
  | _ => cases e
theorem j7 {d : D} {x : V} {ds : List D} (r : aN K g α H h) (rd : aB K g α H d x) (e : vw d h = .ls ds) : ∃ p vs, x = .ref p /\ SqL K H p vs /\ ar K g α H ds vs := by
  cases rd with
  | frl hp rs => cases e; exact ⟨_, _, rfl, hp.sq, rs⟩
  | scr hp rs => cases e; exact ⟨_, _, rfl, hp.sq, rs⟩
  | @ref n p hp =>
    unfold vw at e
    simp only at e
    cases el : ax h n with
    | none => rw [el] at e; cases e
    | some ds' =>
      rw [el] at e; cases e
      obtain ⟨vs, hv, rs⟩ := r.lst el hp
      exact ⟨_, _, rfl, SqL.of hv, rs⟩
  | _ => cases e
theorem sM {f : D -> D -> Option Bool} : ∀ {xs ys : List D} {c : Bool}, eqL f xs ys = some c →
    (∀ (j : Nat) (x y : D), xs[j]? = some x -> ys[j]? = some y -> ∃ b, f x y = some b) /\ c = ((List.range (min xs.length ys.length)).all (fun j => ((f (xs.getD j .non) (ys.getD j .non)).getD false)) && xs.length == ys.length)
  | [], [], c, e => by
    simp [eqL] at e
    refine ⟨fun j x y h => by simp at h, ?_⟩
    simp [<- e]
  | [], _ :: _, c, e => by
    simp [eqL] at e
    exact ⟨fun j x y h => by simp at h, by simp [<- e]⟩
  | _ :: _, [], c, e => by
    simp [eqL] at e
    exact ⟨fun j x y _ h => by simp at h, by simp [<- e]⟩
  | x :: xs, y :: ys, c, e => by
    unfold eqL at e
    split at e
    · rename_i b c' h1 h2
      obtain ⟨q1, q2⟩ := sM h2
      refine ⟨fun j x' y' hx hy => ?_, ?_⟩
      · cases j with
        | zero => simp at hx hy; subst hx hy; exact ⟨b, h1⟩
        | succ j => exact q1 j x' y' (by simpa using hx) (by simpa using hy)
      · have e' := (Option.some.inj e).symm
        rw [e', q2]
        have hm : min (x :: xs).length (y :: ys).length = min xs.length ys.length + 1 := by simp [Nat.succ_min_succ]
        rw [hm, List.range_succ_eq_map, List.all_cons, List.all_map]
        have h0 : (f ((x :: xs).getD 0 .non) ((y :: ys).getD 0 .non)).getD false = b := by
          show (f x y).getD false = b
          rw [h1]; rfl
        rw [h0]
        have hlen : ((x :: xs).length == (y :: ys).length) = (xs.length == ys.length) := by simp
        rw [hlen, Bool.and_assoc]
        rfl
    · cases e
end
section
variable {X : Cx} {g : GG} {pins : List (Addr × Obj)} {σ : St} {H : Hp} {s : Shared} {α : List Addr} {h : Hh}
open PySem.SeqAt
theorem yM {A : Around} {a b : D} {x y : V} {u v : Value} {K : PySem.W.Frag} (ra : aB K g α H a x) (rb : aB K g α H b y) (ru : RelV x u) (rv : RelV y v) (fa : dG a = true) (fb : dG b = true) :
    EqAt A s u v (eqF a b) /\ RcAt A s u v (eqF a b) /\ RcNeAt A s u v (!eqF a b) := by
  cases ra with
  | non =>
    cases ru
    cases rb with
    | non => cases rv; exact ⟨.same _, .none_none, .none_none⟩
    | bl z => cases rv; exact ⟨.none_bool z, .none_bool z, .none_bool z⟩
    | int z => obtain ⟨t, rfl⟩ := rv; exact ⟨.none_int z t, .none_int z t, .none_int z t⟩
    | str z => obtain ⟨t, rfl⟩ := rv; exact ⟨.none_str z t, .none_str z t, .none_str z t⟩
    | _ => cases fb
  | bl q =>
    cases ru
    cases rb with
    | non => cases rv; exact ⟨.bool_none q, .bool_none q, .bool_none q⟩
    | bl z => cases rv; exact ⟨.bool_bool q z, .bool_bool q z, .bool_bool q z⟩
    | int z => obtain ⟨t, rfl⟩ := rv; exact ⟨.bool_int q z t, .bool_int q z t, .bool_int q z t⟩
    | str z => obtain ⟨t, rfl⟩ := rv; exact ⟨.bool_str q z t, .bool_str q z t, .bool_str q z t⟩
    | _ => cases fb
  | int q =>
    obtain ⟨t', rfl⟩ := ru
    cases rb with
    | non => cases rv; exact ⟨.int_none q t', .int_none q t', .int_none q t'⟩
    | bl z => cases rv; exact ⟨.int_bool q t' z, .int_bool q t' z, .int_bool q t' z⟩
    | int z => obtain ⟨t, rfl⟩ := rv; exact ⟨.int_int q t' z t, .int_int q t' z t, .int_int q t' z t⟩
    | str z => obtain ⟨t, rfl⟩ := rv; exact ⟨.int_str q t' z t, .int_str q t' z t, .int_str q t' z t⟩
    | _ => cases fb
  | str q =>
    obtain ⟨t', rfl⟩ := ru
    cases rb with
    | non => cases rv; exact ⟨.str_none q t', .str_none q t', .str_none q t'⟩
    | bl z => cases rv; exact ⟨.str_bool q t' z, .str_bool q t' z, .str_bool q t' z⟩
    | int z => obtain ⟨t, rfl⟩ := rv; exact ⟨.str_int q t' z t, .str_int q t' z t, .str_int q t' z t⟩
    | str z => obtain ⟨t, rfl⟩ := rv; exact ⟨.str_str q t' z t, .str_str q t' z t, .str_str q t' z t⟩
    | _ => cases fb
  | _ => cases fa
theorem p6 {A : Around} {b : D} {y : V} {v : Value} {p : Addr} {its : Array Value} {K : PySem.W.Frag} (ht : s.heap.IsTuple p its) (hu : A.units < cLine) (rb : aB K g α H b y) (rv : RelV y v) (fb : dG b = true) :
    (EqAt A s (.ref p) v false /\ RcAt A s (.ref p) v false /\ RcNeAt A s (.ref p) v true) /\ (EqAt A s v (.ref p) false /\ RcAt A s v (.ref p) false /\ RcNeAt A s v (.ref p) true) := by
  cases rb with
  | non => cases rv; exact ⟨⟨.tuple_none ht hu, .tuple_none ht hu, .tuple_none ht hu⟩, .none_tuple ht hu, .none_tuple ht hu, .none_tuple ht hu⟩
  | bl z => cases rv; exact ⟨⟨.tuple_bool z ht hu, .tuple_bool z ht hu, .tuple_bool z ht hu⟩, .bool_tuple z ht hu, .bool_tuple z ht hu, .bool_tuple z ht hu⟩
  | int z => obtain ⟨t, rfl⟩ := rv; exact ⟨⟨.tuple_int z t ht hu, .tuple_int z t ht hu, .tuple_int z t ht hu⟩, .int_tuple z t ht hu, .int_tuple z t ht hu, .int_tuple z t ht hu⟩
  | str z => obtain ⟨t, rfl⟩ := rv; exact ⟨⟨.tuple_str z t ht hu, .tuple_str z t ht hu, .tuple_str z t ht hu⟩, .str_tuple z t ht hu, .str_tuple z t ht hu, .str_tuple z t ht hu⟩
  | _ => cases fb
theorem qk {A : Around} {b : D} {y : V} {v : Value} {p : Addr} {its : Array Value} {K : PySem.W.Frag} (ht : s.heap.IsList p its) (hu : A.units < cLine) (rb : aB K g α H b y) (rv : RelV y v) (fb : dG b = true) :
    (EqAt A s (.ref p) v false /\ RcAt A s (.ref p) v false /\ RcNeAt A s (.ref p) v true) /\ (EqAt A s v (.ref p) false /\ RcAt A s v (.ref p) false /\ RcNeAt A s v (.ref p) true) := by
  cases rb with
  | non => cases rv; exact ⟨⟨.list_none ht hu, .list_none ht hu, .list_none ht hu⟩, .none_list ht hu, .none_list ht hu, .none_list ht hu⟩
  | bl z => cases rv; exact ⟨⟨.list_bool z ht hu, .list_bool z ht hu, .list_bool z ht hu⟩, .bool_list z ht hu, .bool_list z ht hu, .bool_list z ht hu⟩
  | int z => obtain ⟨t, rfl⟩ := rv; exact ⟨⟨.list_int z t ht hu, .list_int z t ht hu, .list_int z t ht hu⟩, .int_list z t ht hu, .int_list z t ht hu, .int_list z t ht hu⟩
  | str z => obtain ⟨t, rfl⟩ := rv; exact ⟨⟨.list_str z t ht hu, .list_str z t ht hu, .list_str z t ht hu⟩, .str_list z t ht hu, .str_list z t ht hu, .str_list z t ht hu⟩
  | _ => cases fb
theorem qe {A : Around} {k : Nat} {ds es : List D} {vs us : List V} {its jts : List Value} {c : Bool} (r : aN X.K g α H h)
    (ih : ∀ (a b : D) (x y : V) (u v : Value) (c : Bool), aB X.K g α H a x -> aB X.K g α H b y -> RelV x u -> RelV y v -> eqD k h a b = some c -> EqAt A.in1 s u v c)
    (rs : ar X.K g α H ds vs) (rt : ar X.K g α H es us) (rv : Vals vs its) (ru : Vals us jts) (e : eqL (eqD k h) ds es = some c) :
    (∀ j (h1 : j < its.toArray.size) (h2 : j < jts.toArray.size), EqAt A.in1 s its.toArray[j] jts.toArray[j] ((fun (j : Nat) => (eqD k h (ds.getD j .non) (es.getD j .non)).getD false) j)) ∧
    c = ((List.range (min its.toArray.size jts.toArray.size)).all (fun (j : Nat) => (eqD k h (ds.getD j .non) (es.getD j .non)).getD false) && its.toArray.size == jts.toArray.size) := by
  obtain ⟨q1, q2⟩ := sM e
  have l1 : its.toArray.size = ds.length := by rw [List.size_toArray, <- rv.length, rs.length]
  have l2 : jts.toArray.size = es.length := by rw [List.size_toArray, <- ru.length, rt.length]
  refine ⟨fun j h1 h2 => ?_, by rw [l1, l2]; exact q2⟩
  have hd : ds[j]? = some (ds.getD j .non) := by rw [List.getD_eq_getElem?_getD, List.getElem?_eq_getElem (by omega)]; rfl
  have he : es[j]? = some (es.getD j .non) := by rw [List.getD_eq_getElem?_getD, List.getElem?_eq_getElem (by omega)]; rfl
  obtain ⟨b, hb⟩ := q1 j _ _ hd he
  obtain ⟨x, hx, rx⟩ := rs.get hd
  obtain ⟨y, hy, ry⟩ := rt.get he
  obtain ⟨u, hu, rxu⟩ := rv.get hx
  obtain ⟨v, hv, ryv⟩ := ru.get hy
  have eu : its.toArray[j] = u := by
    have := List.getElem?_eq_getElem (l := its) (i := j) (by simpa using h1)
    rw [hu] at this
    simpa using (Option.some.inj this).symm
  have ev : jts.toArray[j] = v := by
    have := List.getElem?_eq_getElem (l := jts) (i := j) (by simpa using h2)
    rw [hv] at this
    simpa using (Option.some.inj this).symm
  rw [eu, ev]
  show EqAt A.in1 s u v ((eqD k h (ds.getD j .non) (es.getD j .non)).getD false)
  rw [hb]
  exact ih _ _ _ _ _ _ _ rx ry rxu ryv hb
theorem sF (I : Inv X pins σ H s) {p : Addr} {vs us : List V} (a : SqT X.K H p vs) (b : SqL X.K H p us) : False := by
  obtain ⟨its, r1, ⟨o, e, c, _⟩, _⟩ := I.tuple a
  obtain ⟨jts, r2, ⟨o', n', e', c', _⟩, _⟩ := I.list b
  rw [e] at e'; cases e'; rw [c] at c'; injection c' with z; exact absurd z (by decide)
theorem lP (I : Inv X pins σ H s) (r : aN X.K g α H h) : ∀ (k : Nat) (a b : D) (x : V) (c : Bool), aB X.K g α H a x -> aB X.K g α H b x -> eqD k h a b = some c -> c = true
  | 0, _, _, _, _, _, _, e => by cases e
  | k + 1, a, b, x, c, ra, rb, e => by
    unfold eqD at e
    cases ea : vw a h with
    | no => simp [ea] at e
    | fl =>
      have fa := j6 ra ea
      cases eb : vw b h with
      | no => simp [ea, eb] at e
      | fl =>
        simp only [ea, eb] at e
        cases e
        have fb := j6 rb eb
        cases ra with
        | non => cases rb with
          | non => rfl
        | bl z => cases rb with
          | bl _ => simp [eqF]
        | int z => cases rb with
          | int _ => simp [eqF]
        | str z => cases rb with
          | str _ => simp [eqF]
        | _ => cases fa
      | tp ds => obtain ⟨p, vs, rfl, _⟩ := j3 rb eb; cases ra <;> cases fa
      | ls ds => obtain ⟨p, vs, rfl, _⟩ := j7 r rb eb; cases ra <;> cases fa
    | tp da =>
      obtain ⟨p, va, rfl, hp, rs⟩ := j3 ra ea
      cases eb : vw b h with
      | no => simp [ea, eb] at e
      | fl => have fb := j6 rb eb; cases rb <;> cases fb
      | tp db =>
        simp only [ea, eb] at e
        obtain ⟨q, vb, hpq, hq, rt⟩ := j3 rb eb
        cases hpq
        have := I.fA hp hq
        subst this
        exact kO (fun a b x c => lP I r k a b x c) rs rt e
      | ls db =>
        obtain ⟨q, vb, hpq, hq, rt⟩ := j7 r rb eb
        cases hpq
        exact (sF I hp hq).elim
    | ls da =>
      obtain ⟨p, va, rfl, hp, rs⟩ := j7 r ra ea
      cases eb : vw b h with
      | no => simp [ea, eb] at e
      | fl => have fb := j6 rb eb; cases rb <;> cases fb
      | tp db =>
        obtain ⟨q, vb, hpq, hq, rt⟩ := j3 rb eb
        cases hpq
        exact (sF I hq hp).elim
      | ls db =>
        simp only [ea, eb] at e
        obtain ⟨q, vb, hpq, hq, rt⟩ := j7 r rb eb
        cases hpq
        have := I.hJ hp hq
        subst this
        rw [if_pos (by rw [rs.length, rt.length])] at e
        exact kO (fun a b x c => lP I r k a b x c) rs rt e
theorem sd (I : Inv X pins σ H s) (r : aN X.K g α H h) : ∀ (k : Nat) (A : Around) (a b : D) (x y : V) (u v : Value) (c : Bool), A.units + k < cLine -> aB X.K g α H a x -> aB X.K g α H b y -> RelV x u -> RelV y v -> eqD k h a b = some c →
    EqAt A s u v c /\ RcAt A s u v c /\ RcNeAt A s u v (!c)
  | 0, _, _, _, _, _, _, _, _, _, _, _, _, _, e => by cases e
  | k + 1, A, a, b, x, y, u, v, c, hu, ra, rb, ru, rv, e => by
    have hu0 : A.units < cLine := by omega
    have ih : ∀ (a b : D) (x y : V) (u v : Value) (c : Bool), aB X.K g α H a x -> aB X.K g α H b y -> RelV x u -> RelV y v -> eqD k h a b = some c -> EqAt A.in1 s u v c :=
      fun a b x y u v c h1 h2 h3 h4 h5 => (sd I r k A.in1 a b x y u v c (by show A.units + 1 + k < _; omega) h1 h2 h3 h4 h5).1
    have whole := fun x ra rb => lP I r (k + 1) a b x c ra rb e
    unfold eqD at e
    cases ea : vw a h with
    | no => simp [ea] at e
    | fl =>
      have fa := j6 ra ea
      cases eb : vw b h with
      | no => simp [ea, eb] at e
      | fl => simp only [ea, eb] at e; cases e; exact yM ra rb ru rv fa (j6 rb eb)
      | tp db =>
        simp only [ea, eb] at e; cases e
        obtain ⟨q, vb, rfl, hq, rt⟩ := j3 rb eb
        cases rv
        obtain ⟨its, r1, ht, _⟩ := I.tuple hq
        exact (p6 ht hu0 ra ru fa).2
      | ls db =>
        simp only [ea, eb] at e; cases e
        obtain ⟨q, vb, rfl, hq, rt⟩ := j7 r rb eb
        cases rv
        obtain ⟨its, r1, ht, _⟩ := I.list hq
        exact (qk ht.isList hu0 ra ru fa).2
    | tp da =>
      obtain ⟨p, va, rfl, hp, rs⟩ := j3 ra ea
      cases ru
      obtain ⟨its, r1, ht, _⟩ := I.tuple hp
      cases eb : vw b h with
      | no => simp [ea, eb] at e
      | fl => simp only [ea, eb] at e; cases e; exact (p6 ht hu0 rb rv (j6 rb eb)).1
      | tp db =>
        simp only [ea, eb] at e
        obtain ⟨q, vb, rfl, hq, rt⟩ := j3 rb eb
        cases rv
        obtain ⟨jts, r2, ht2, _⟩ := I.tuple hq
        obtain ⟨h1, h2⟩ := qe r ih rs rt r1 r2 e
        have rc : RcAt A s (.ref p) (.ref q) c := by rw [h2]; exact RcAt.tuples ht ht2 hu0 h1
        refine ⟨?_, rc, by rw [h2]; exact RcNeAt.tuples ht ht2 hu0 h1⟩
        by_cases hpq : p = q
        · subst hpq
          rw [whole _ ra rb]
          exact .same _
        · exact .of_refs hpq rc
      | ls db =>
        simp only [ea, eb] at e; cases e
        obtain ⟨q, vb, rfl, hq, rt⟩ := j7 r rb eb
        cases rv
        obtain ⟨jts, r2, ht2, _⟩ := I.list hq
        exact ⟨.tuple_list ht ht2.isList hu0, .tuple_list ht ht2.isList hu0, .tuple_list ht ht2.isList hu0⟩
    | ls da =>
      obtain ⟨p, va, rfl, hp, rs⟩ := j7 r ra ea
      cases ru
      obtain ⟨its, r1, ht', _⟩ := I.list hp
      have ht := ht'.isList
      cases eb : vw b h with
      | no => simp [ea, eb] at e
      | fl => simp only [ea, eb] at e; cases e; exact (qk ht hu0 rb rv (j6 rb eb)).1
      | tp db =>
        simp only [ea, eb] at e; cases e
        obtain ⟨q, vb, rfl, hq, rt⟩ := j3 rb eb
        cases rv
        obtain ⟨jts, r2, ht2, _⟩ := I.tuple hq
        exact ⟨.list_tuple ht ht2 hu0, .list_tuple ht ht2 hu0, .list_tuple ht ht2 hu0⟩
      | ls db =>
        simp only [ea, eb] at e
        obtain ⟨q, vb, rfl, hq, rt⟩ := j7 r rb eb
        cases rv
        obtain ⟨jts, r2, ht2', _⟩ := I.list hq
        have ht2 := ht2'.isList
        have l1 : its.toArray.size = da.length := by rw [List.size_toArray, <- r1.length, rs.length]
        have l2 : jts.toArray.size = db.length := by rw [List.size_toArray, <- r2.length, rt.length]
        have fin : RcAt A s (.ref p) (.ref q) c /\ RcNeAt A s (.ref p) (.ref q) (!c) := by
          by_cases hl : da.length = db.length
          · rw [if_pos hl] at e
            obtain ⟨h1, h2⟩ := qe r ih rs rt r1 r2 e
            have hsz : its.toArray.size = jts.toArray.size := by omega
            have h2' : c = (List.range its.toArray.size).all (fun (j : Nat) => (eqD k h (da.getD j .non) (db.getD j .non)).getD false) := by
              rw [h2, <- hsz, Nat.min_self]; simp
            exact ⟨by rw [h2']; exact RcAt.lists ht ht2 hsz hu0 h1, by rw [h2']; exact RcNeAt.lists ht ht2 hsz hu0 h1⟩
          · rw [if_neg hl] at e
            have e2 : c = false := (Option.some.inj e).symm
            have hsz : (its.toArray.size != jts.toArray.size) = true := by
              rw [l1, l2]; simpa using hl
            rw [e2]
            exact ⟨RcAt.lists_lengths ht ht2 hsz hu0, RcNeAt.lists_lengths ht ht2 hsz hu0⟩
        refine ⟨?_, fin⟩
        by_cases hpq : p = q
        · subst hpq
          rw [whole _ ra rb]
          exact .same _
        · exact .of_refs hpq fin.1
noncomputable abbrev eqN : Nat := 12
noncomputable def dEq : D -> D -> Hh -> R D := fun a b h => match eqD eqN h a b with
  | some c => .ok (.bl c) h
  | none => .bad
noncomputable def dNe : D -> D -> Hh -> R D := fun a b h => match eqD eqN h a b with
  | some c => .ok (.bl (!c)) h
  | none => .bad
noncomputable def yh (K : PySem.W.Frag) (g : GG) (neg : Bool) : R2 := fun x y H Q => ∃ α h a b c, aN K g α H h /\ aB K g α H a x /\ aB K g α H b y /\ eqD eqN h a b = some c /\ Q (.bl (if neg then !c else c)) H
theorem wO (hu : X.A.units + 64 < cLine) : OpR X (compareOp .Eq) (yh X.K g false) := by
  intro pins s σ H x y v u Q I rx ry ⟨α, h, a, b, c, r, ra, rb, e, q⟩
  exact (sd I r eqN X.A a b x y v u c (by show X.A.units + 12 < _; omega) ra rb rx ry e).2.1 _ _ _ _ ⟨.bl c, H, I, rfl, q⟩
theorem jz (hu : X.A.units + 64 < cLine) : OpR X (compareOp .NotEq) (yh X.K g true) := by
  intro pins s σ H x y v u Q I rx ry ⟨α, h, a, b, c, r, ra, rb, e, q⟩
  exact (sd I r eqN X.A a b x y v u c (by show X.A.units + 12 < _; omega) ra rb rx ry e).2.2 _ _ _ _ ⟨.bl (!c), H, I, rfl, q⟩
theorem zJ {ε : EE} {K : PySem.W.Frag} : de K g ε dEq (yh K g false) := by
  intro α H h a b x y Q r ra rb w
  unfold dEq at w
  cases e : eqD eqN h a b with
  | none => simp only [e] at w; exact w.elim
  | some c => simp only [e] at w; exact ⟨α, h, a, b, c, r, ra, rb, e, aF.now w r (.bl _)⟩
theorem nk {ε : EE} {K : PySem.W.Frag} : de K g ε dNe (yh K g true) := by
  intro α H h a b x y Q r ra rb w
  unfold dNe at w
  cases e : eqD eqN h a b with
  | none => simp only [e] at w; exact w.elim
  | some c => simp only [e] at w; exact ⟨α, h, a, b, c, r, ra, rb, e, aF.now w r (.bl _)⟩
end
section
variable {X : Cx} {K : PySem.W.Frag} {g : GG} {ε : EE}
noncomputable def bZ : List D -> Hh -> R D := fun ds h => match ds with
  | [.tup ds] => .ok (.int ds.length) h
  | [.frl ds] => .ok (.int ds.length) h
  | [.scr ds] => .ok (.int ds.length) h
  | [.str x] => if x.length <= 1000000 then .ok (.int x.length) h else .bad
  | [.ref n] => match h[n]? with
    | some (.lst ds) => .ok (.int ds.length) h
    | some (.set k) => .ok (.int k.length) h
    | _ => .bad
  | _ => .bad
noncomputable abbrev zQ (K : PySem.W.Frag) : List V -> Hp -> VK -> Prop := fun xs H Q => (∃ p ys, xs = [.ref p] /\ (SqL K H p ys \/ SqT K H p ys) /\ Q (.int ys.length) H) \/ (∃ p S n, xs = [.ref p] /\ H p = some (.set S n) /\ Q (.int n) H) \/ ∃ z, xs = [.str z] /\ z.length <= sizeLine /\ Q (.int z.length) H
theorem cc : bu X (.builtin "len") (zQ X.K) := bu.or oQ (bu.or mI n6)
theorem jF {α : List Addr} {H : Hp} {h : Hh} {ds : List D} {vs : List V} {f : List D -> Hh -> R D} {Q : VK} (hf : ∀ d e r h, f (d :: e :: r) h = .bad) (hf0 : ∀ h, f [] h = .bad) (rs : ar K g α H ds vs) (w : WQ K g ε α H (f ds h) (aF K g α H Q)) : ∃ d v, ds = [d] /\ vs = [v] /\ aB K g α H d v := by
  cases rs with
  | nil => rw [hf0] at w; exact w.elim
  | cons r t =>
    cases t with
    | nil => exact ⟨_, _, rfl, rfl, r⟩
    | cons _ _ => rw [hf] at w; exact w.elim
theorem cb : kj K g ε bZ (zQ K) := by
  intro α H h a x Q r ra w
  obtain ⟨d, v, rfl, rfl, rd⟩ := jF (f := bZ) (fun d _ _ _ => by cases d <;> rfl) (fun _ => rfl) ra w
  unfold bZ at w
  cases rd with
  | tup hp rs => exact .inl ⟨_, _, rfl, .inr (SqT.of hp), aF.now w r (by rw [<- rs.length]; exact .int _)⟩
  | frl hp rs => exact .inl ⟨_, _, rfl, .inl hp.sq, aF.now w r (by rw [<- rs.length]; exact .int _)⟩
  | scr hp rs => exact .inl ⟨_, _, rfl, .inl hp.sq, aF.now w r (by rw [<- rs.length]; exact .int _)⟩
  | str z =>
    obtain ⟨hl, w⟩ := WQ.eW w
    exact .inr (.inr ⟨z, rfl, eU hl, aF.now w r (.int _)⟩)
  | @ref n p hp =>
    simp only at w
    cases e : h[n]? with
    | none => rw [e] at w; exact w.elim
    | some o =>
      rw [e] at w
      have q := r.here n p o hp e
      cases o with
      | lst ds => obtain ⟨vs, hv, rs⟩ := q; exact .inl ⟨p, vs, rfl, .inl (SqL.of hv), aF.now w r (by rw [<- rs.length]; exact .int _)⟩
      | set k => exact .inr (.inl ⟨p, _, _, rfl, q, aF.now w r (.int _)⟩)
      | dic k => exact w.elim
      | dit k => exact w.elim
  | _ => exact w.elim
noncomputable def eL : List D -> Hh -> R D := fun ds h => match ds with
  | [.tup ds] => .ok (.tup ds) h
  | [.frl ds] => .ok (.tup ds) h
  | [.ref n] => match ax h n with
    | some ds => .ok (.tup ds) h
    | none => .bad
  | _ => .bad
theorem jt : kj K g ε eL (fun xs H Q => ∃ p ys, xs = [.ref p] /\ ((SqL K H p ys /\ ∀ l, H l = none -> Q (.ref l) (upd H l (.tup ys))) \/ (SqT K H p ys /\ Q (.ref p) H))) := by
  intro α H h a x Q r ra w
  obtain ⟨d, v, rfl, rfl, rd⟩ := jF (f := eL) (fun d _ _ _ => by cases d <;> rfl) (fun _ => rfl) ra w
  unfold eL at w
  cases rd with
  | tup hp rs => exact ⟨_, _, rfl, .inr ⟨SqT.of hp, aF.now w r (.tup hp rs)⟩⟩
  | frl hp rs => exact ⟨_, _, rfl, .inl ⟨hp.sq, fun l hl => aF.tup w r rs hl⟩⟩
  | @ref n p hp =>
    simp only at w
    cases e : ax h n with
    | none => rw [e] at w; exact w.elim
    | some ds =>
      rw [e] at w
      obtain ⟨vs, hv, rs⟩ := r.lst e hp
      exact ⟨p, vs, rfl, .inl ⟨SqL.of hv, fun l hl => aF.tup w r rs hl⟩⟩
  | _ => exact w.elim
noncomputable def intsOf : List D -> Option (List Int)
  | [] => some []
  | .int i :: ds => (intsOf ds).map (i :: ·)
  | _ :: _ => none
theorem gP : ∀ {ds : List D} {ns : List Int}, intsOf ds = some ns -> ds = ns.map D.int
  | [], ns, e => by cases e; rfl
  | .int i :: ds, ns, e => by
    unfold intsOf at e
    cases e1 : intsOf ds with
    | none => rw [e1] at e; cases e
    | some ms => rw [e1] at e; cases e; rw [gP e1]; rfl
  | .non :: _, _, e => by cases e
  | .bl _ :: _, _, e => by cases e
  | .str _ :: _, _, e => by cases e
  | .tup _ :: _, _, e => by cases e
  | .frl _ :: _, _, e => by cases e
  | .ref _ :: _, _, e => by cases e
  | .fn _ :: _, _, e => by cases e
  | .edic :: _, _, e => by cases e
  | .exc _ _ :: _, _, e => by cases e
  | .scr _ :: _, _, e => by cases e
theorem iQ : ∀ (ns : List Int), intsOf (ns.map D.int) = some ns
  | [] => rfl
  | n :: r => by rw [List.map_cons, intsOf, iQ r]; rfl
noncomputable def t9 : List D -> Hh -> R D := fun ds h => match ds with
  | [.tup ds] => match intsOf ds with
    | some ns => if ns.length <= 4000 then .ok (.ref h.length) (h ++ [.set (unl ns)]) else .bad
    | none => .bad
  | _ => .bad
theorem BA : kj K g ε t9 (fun vs H Q => ∃ p ns, vs = [.ref p] /\ SqT K H p (ns.map V.int) /\ ns.length + 1 < scanBound /\ ∀ l, H l = none -> Q (.ref l) (upd H l (.set (fun k => (unl ns).any (· == k)) (unl ns).length))) := by
  intro α H h a x Q r ra w
  obtain ⟨d, v, rfl, rfl, rd⟩ := jF (f := t9) (fun d _ _ _ => by cases d <;> rfl) (fun _ => rfl) ra w
  unfold t9 at w
  cases rd with
  | tup hp rs =>
    simp only at w
    cases e : intsOf _ with
    | none => rw [e] at w; exact w.elim
    | some ns =>
      rw [e] at w
      obtain ⟨hl, w⟩ := WQ.eW w
      have e2 := gP e
      subst e2
      have e3 := rs.wz
      subst e3
      refine ⟨_, ns, rfl, SqT.of hp, by show ns.length + 1 < 4096; omega, fun l hn => ?_⟩
      refine (show aF K g α H Q _ _ from w) _ _ (α ++ [l]) (Ext.push hn) (r.push hn aR) (.ref ?_)
      rw [<- r.len, List.getElem?_append_right (Nat.le_refl _)]; simp
  | _ => exact w.elim
noncomputable def vS : List D -> Hh -> R D := fun ds h => match ds with
  | [.int i, .int j] => .ok (.int (if j > i then j else i)) h
  | _ => .bad
theorem vN {α : List Addr} {H : Hp} {h : Hh} {ds : List D} {vs : List V} {t : Int -> Int -> Int} {Q : VK} (r : aN K g α H h) (rs : ar K g α H ds vs) (w : WQ K g ε α H (match ds with | [.int i, .int j] => .ok (.int (t i j)) h | _ => .bad) (aF K g α H Q)) : ∃ i j, vs = [.int i, .int j] /\ Q (.int (t i j)) H := by
  split at w
  · cases rs with
    | cons r1 t1 =>
      cases r1
      cases t1 with
      | cons r2 t2 =>
        cases r2
        cases t2
        exact ⟨_, _, rfl, aF.now w r (.int _)⟩
  · exact w.elim
theorem xY : kj K g ε vS (fun xs H Q => ∃ i j, xs = [.int i, .int j] /\ Q (.int (if j > i then j else i)) H) := fun α H h a x Q r ra w => vN (t := fun i j => if j > i then j else i) r ra w
noncomputable def v7 : List D -> Hh -> R D := fun ds h => match ds with
  | [.int i] => .ok (.int i) h
  | [.bl b] => .ok (.int (if b then 1 else 0)) h
  | _ => .bad
theorem Ax : kj K g ε v7 (fun xs H Q => (∃ i, xs = [.int i] /\ Q (.int i) H) \/ ∃ k, xs = [.bl k] /\ Q (.int (if k then 1 else 0)) H) := by
  intro α H h a x Q r ra w
  obtain ⟨d, v, rfl, rfl, rd⟩ := jF (f := v7) (fun d _ _ _ => by cases d <;> rfl) (fun _ => rfl) ra w
  unfold v7 at w
  cases rd with
  | int i => exact .inl ⟨i, rfl, aF.now w r (.int _)⟩
  | bl b => exact .inr ⟨b, rfl, aF.now w r (.int _)⟩
  | _ => exact w.elim
noncomputable def tyD (d : D) (h : Hh) : Option String := match d with
  | .non => some "NoneType"
  | .bl _ => some "bool"
  | .int _ => some "int"
  | .str _ => some "str"
  | .tup _ => some "tuple"
  | .frl _ => some "list"
  | .edic => some "dict"
  | .ref n => match h[n]? with
    | some (.lst _) => some "list"
    | some (.dic _) => some "dict"
    | some (.dit _) => some "dict"
    | _ => none
  | _ => none
noncomputable def sP (t n : String) : Option Bool :=
  if n = "int" then (if t = "int" then some true else if t = "bool" then some true else if t = "NoneType" \/ t = "str" \/ t = "tuple" \/ t = "list" \/ t = "dict" then some false else none)
  else if n = "bool" \/ n = "tuple" \/ n = "list" \/ n = "str" then (if t = n then some true else if t = "int" \/ t = "bool" \/ t = "NoneType" \/ t = "str" \/ t = "tuple" \/ t = "list" \/ t = "dict" then some false else none)
  else none
noncomputable def mY (n : String) : D -> Hh -> R D := fun d h => match tyD d h with
  | some t => match sP t n with
    | some b => .ok (.bl b) h
    | none => .bad
  | none => .bad
theorem B5 {α : List Addr} {H : Hp} {h : Hh} {d : D} {v : V} {t : String} (r : aN K g α H h) (rd : aB K g α H d v) (e : tyD d h = some t) : iU K H v (.type t) := by
  unfold tyD at e
  cases rd with
  | non => cases e; exact .non
  | bl b => cases e; exact .bl b
  | int i => cases e; exact .int i
  | str i => cases e; exact .str i
  | tup hp rs => cases e; exact .tup hp
  | frl hp rs => cases e; obtain ⟨o, hp⟩ := hp; exact .frz hp
  | edic hp => cases e; exact .fX hp
  | @ref n p hp =>
    simp only at e
    cases eo : h[n]? with
    | none => rw [eo] at e; cases e
    | some o =>
      rw [eo] at e
      have q := r.here n p o hp eo
      cases o with
      | lst ds => cases e; obtain ⟨vs, hv, _⟩ := q; exact .lst hv
      | set k => cases e
      | dic k => cases e; obtain ⟨vs, hv, _⟩ := q; exact .dK hv
      | dit k => cases e; obtain ⟨vs, hv, _⟩ := q; exact .dT hv
  | _ => cases e
theorem yK (K : PySem.W.Frag) : PySem.W.kitOne K (.type "int") (.type "int") = some true /\ PySem.W.kitOne K (.type "bool") (.type "int") = some true /\ PySem.W.kitOne K (.type "NoneType") (.type "int") = some false /\ PySem.W.kitOne K (.type "str") (.type "int") = some false
    /\ PySem.W.kitOne K (.type "tuple") (.type "int") = some false /\ PySem.W.kitOne K (.type "list") (.type "int") = some false /\ PySem.W.kitOne K (.type "dict") (.type "int") = some false := ⟨rfl, rfl, rfl, rfl, rfl, rfl, rfl⟩
theorem vj (K : PySem.W.Frag) : PySem.W.kitOne K (.type "int") (.type "bool") = some false /\ PySem.W.kitOne K (.type "bool") (.type "bool") = some true /\ PySem.W.kitOne K (.type "NoneType") (.type "bool") = some false /\ PySem.W.kitOne K (.type "str") (.type "bool") = some false
    /\ PySem.W.kitOne K (.type "tuple") (.type "bool") = some false /\ PySem.W.kitOne K (.type "list") (.type "bool") = some false /\ PySem.W.kitOne K (.type "dict") (.type "bool") = some false := ⟨rfl, rfl, rfl, rfl, rfl, rfl, rfl⟩
theorem kit_tuple (K : PySem.W.Frag) : PySem.W.kitOne K (.type "int") (.type "tuple") = some false /\ PySem.W.kitOne K (.type "bool") (.type "tuple") = some false /\ PySem.W.kitOne K (.type "NoneType") (.type "tuple") = some false /\ PySem.W.kitOne K (.type "str") (.type "tuple") = some false
    /\ PySem.W.kitOne K (.type "tuple") (.type "tuple") = some true /\ PySem.W.kitOne K (.type "list") (.type "tuple") = some false /\ PySem.W.kitOne K (.type "dict") (.type "tuple") = some false := ⟨rfl, rfl, rfl, rfl, rfl, rfl, rfl⟩
theorem w_ (K : PySem.W.Frag) : PySem.W.kitOne K (.type "int") (.type "list") = some false /\ PySem.W.kitOne K (.type "bool") (.type "list") = some false /\ PySem.W.kitOne K (.type "NoneType") (.type "list") = some false /\ PySem.W.kitOne K (.type "str") (.type "list") = some false
    /\ PySem.W.kitOne K (.type "tuple") (.type "list") = some false /\ PySem.W.kitOne K (.type "list") (.type "list") = some true /\ PySem.W.kitOne K (.type "dict") (.type "list") = some false := ⟨rfl, rfl, rfl, rfl, rfl, rfl, rfl⟩
theorem za (K : PySem.W.Frag) : PySem.W.kitOne K (.type "int") (.type "str") = some false /\ PySem.W.kitOne K (.type "bool") (.type "str") = some false /\ PySem.W.kitOne K (.type "NoneType") (.type "str") = some false /\ PySem.W.kitOne K (.type "str") (.type "str") = some true
    /\ PySem.W.kitOne K (.type "tuple") (.type "str") = some false /\ PySem.W.kitOne K (.type "list") (.type "str") = some false /\ PySem.W.kitOne K (.type "dict") (.type "str") = some false := ⟨rfl, rfl, rfl, rfl, rfl, rfl, rfl⟩
theorem Ac {t n : String} {b : Bool} (e : sP t n = some b) : PySem.W.kitOne K (.type t) (.type n) = some b := by
  unfold sP at e
  obtain ⟨a1, a2, a3, a4, a5, a6, a7⟩ := yK K
  obtain ⟨b1, b2, b3, b4, b5, b6, b7⟩ := vj K
  obtain ⟨c1, c2, c3, c4, c5, c6, c7⟩ := kit_tuple K
  obtain ⟨d1, d2, d3, d4, d5, d6, d7⟩ := w_ K
  obtain ⟨e1, e2, e3, e4, e5, e6, e7⟩ := za K
  split at e
  · rename_i hn; subst hn
    split at e
    · rename_i h; subst h; cases e; exact a1
    · split at e
      · rename_i h; subst h; cases e; exact a2
      · split at e
        · rename_i h; cases e; rcases h with rfl | rfl | rfl | rfl | rfl <;> assumption
        · cases e
  · split at e
    · rename_i hn
      split at e
      · rename_i h; subst h; cases e; rcases hn with rfl | rfl | rfl | rfl <;> assumption
      · rename_i hne
        split at e
        · rename_i h; cases e; rcases hn with rfl | rfl | rfl | rfl <;> rcases h with rfl | rfl | rfl | rfl | rfl | rfl | rfl <;> first | assumption | exact absurd rfl hne
        · cases e
    · cases e
theorem oj {e : Expr} {me : ME} {n : String} {x : Str} {p1 p2 pos : Pos} (he : PE X e (tM X.K g ε me)) (hg : Gl X "isinstance") (hm : X.mg "isinstance" = none) (hg2 : Gl X x) (hm2 : X.mg x = none) (hb : bootBuiltins x = some (.type n)) (hn : x ≠ "__name__" := by decide) (hd : (x == ("__debug__" : Str)) = false := by decide)
    (hs1 : starEach [e, .Name x p2] X.env = (false, eval e X.env) :: starEach [.Name x p2] X.env := by rfl) (hs2 : starEach [.Name x p2] X.env = [(false, eval (.Name x p2) X.env)] := by rfl) (hpl : (backTo pos (starEach [.Name x p2] X.env)).any (·.1) = false := by rfl) :
    PE X (.Call (.Name "isinstance" p1) [e, .Name x p2] [] pos) (tM X.K g ε (cUn (mY n) me)) :=
  PE.imp (qB qg hg hm PyProof.Rows.boot_isinstance (kE he (kE (zl (v := .ty n) hg2 hm2 hb rfl hn hd) rS hs2) hs1) (by decide) (by decide) hs1 hpl) fun σ H Q ⟨α, env, h, s, w⟩ => tM.use s w.bind fun d1 h1 v1 H1 α1 e1 s1 r1 w1 => by
    unfold mY at w1
    cases et : tyD d1 h1 with
    | none => simp only [et] at w1; exact w1.elim
    | some t =>
      simp only [et] at w1
      cases es : sP t n with
      | none => simp only [es] at w1; exact w1.elim
      | some b =>
        simp only [es] at w1
        exact ⟨v1, .type t, n, b, rfl, B5 s1.heap r1 et, Ac es, aF.now (aF.ext e1 w1) s1.heap (.bl b)⟩
end
section
variable {X : Cx} {K : PySem.W.Frag} {g : GG} {ε : EE}
noncomputable def jI : D -> Hh -> R Bool := fun d h => match d with
  | .non => .ok false h
  | .bl b => .ok b h
  | .int i => .ok (i != 0) h
  | .tup ds => .ok (!ds.isEmpty) h
  | .frl ds => .ok (!ds.isEmpty) h
  | .ref n => match ax h n with
    | some ds => .ok (!ds.isEmpty) h
    | none => .bad
  | _ => .bad
theorem ar.isEmpty {α : List Addr} {H : Hp} {ds : List D} {vs : List V} (r : ar K g α H ds vs) : ds.isEmpty = vs.isEmpty := by cases r <;> rfl
theorem iO : Cj K g ε jI (fun x H Q => ∃ k, yD K x H k /\ Q k H) := by
  intro α H h a x Q r ra w
  unfold jI at w
  have now : ∀ {b : Bool}, j8 K g α H Q b h -> Q b H := fun p => p H α Ext.refl r
  cases ra with
  | non => exact ⟨false, rfl, now w⟩
  | bl b => exact ⟨b, rfl, now w⟩
  | int i => exact ⟨_, rfl, now w⟩
  | tup hp rs => exact ⟨_, .inr (.inl ⟨_, SqT.of hp, rfl⟩), now (by rw [<- rs.isEmpty]; exact w)⟩
  | frl hp rs => exact ⟨_, .inl ⟨_, hp.sq, rfl⟩, now (by rw [<- rs.isEmpty]; exact w)⟩
  | @ref n p hp =>
    simp only at w
    cases e : ax h n with
    | none => rw [e] at w; exact w.elim
    | some ds =>
      rw [e] at w
      obtain ⟨vs, hv, rs⟩ := r.lst e hp
      exact ⟨_, .inl ⟨vs, SqL.of hv, rfl⟩, now (by rw [<- rs.isEmpty]; exact w)⟩
  | _ => exact w.elim
theorem wG {α : List Addr} {H : Hp} {d : D} {v : V} (r : aB K g α H d v) (f : dG d = true) : ik v = true := by
  cases r <;> first | rfl | cases f
theorem Cu {α : List Addr} {H : Hp} {d e : D} {v u : V} (r : aB K g α H d v) (q : aB K g α H e u) (f : dG d = true) (f' : dG e = true) : eqF d e = eqV v u := by
  cases r <;> first | (cases f; done) | (cases q <;> first | rfl | cases f')
theorem zI {α : List Addr} {H : Hp} : ∀ {ds : List D} {vs : List V}, ar K g α H ds vs -> ds.all dG = true -> vs.all ik = true
  | _, _, .nil, _ => rfl
  | _, _, .cons r t, f => by
    rw [List.all_cons, Bool.and_eq_true] at f ⊢
    exact ⟨wG r f.1, zI t f.2⟩
theorem zR {α : List Addr} {H : Hp} {e : D} {u : V} (q : aB K g α H e u) (f' : dG e = true) : ∀ {ds : List D} {vs : List V}, ar K g α H ds vs -> ds.all dG = true -> (ds.any fun d => eqF d e) = vs.any fun y => eqV y u
  | _, _, .nil, _ => rfl
  | _, _, .cons r t, f => by
    rw [List.all_cons, Bool.and_eq_true] at f
    rw [List.any_cons, List.any_cons, Cu r q f.1 f', zR q f' t f.2]
noncomputable def dIn (neg : Bool) : D -> D -> Hh -> R D := fun a b h => match gk b h with
  | some ds => if dG a = true /\ ds.all dG = true then .ok (.bl (if neg then !(ds.any fun d => eqF d a) else ds.any fun d => eqF d a)) h else .bad
  | none => .bad
theorem CY {neg : Bool} : de K g ε (dIn neg) (rIn K neg) := by
  intro α H h a b x y Q r ra rb w
  unfold dIn at w
  cases e : gk b h with
  | none => rw [e] at w; exact w.elim
  | some ds =>
    rw [e] at w
    obtain ⟨p, vs, rfl, hq, rs⟩ := o9 r rb e
    obtain ⟨⟨f1, f2⟩, w⟩ := WQ.eW w
    refine ⟨p, vs, rfl, hq, wG ra f1, zI rs f2, ?_⟩
    have e2 : (ds.any fun d => eqF d a) = inV x vs := zR ra f1 rs f2
    rw [<- e2]
    exact aF.now w r (.bl _)
noncomputable def isL (d : D) (h : Hh) : Bool := match d with
  | .ref n => (ax h n).isSome
  | .frl _ => true
  | _ => false
noncomputable def lg (f : D -> List D -> Hh -> R D) (o : ME) (a : MA) : ME := fun env h => (o env h).bind fun x h1 => if isL x h1 = true then (a env h1).bind fun xs h2 => f x xs h2 else .bad
theorem zg {α : List Addr} {H : Hp} {h : Hh} {d : D} {x : V} (r : aN K g α H h) (rd : aB K g α H d x) (e : isL d h = true) : tyV K "list" x H := by
  unfold isL at e
  cases rd with
  | @ref n p hp =>
    simp only at e
    obtain ⟨ds, e⟩ := Option.isSome_iff_exists.mp e
    obtain ⟨vs, hv, _⟩ := r.lst e hp
    exact .inl ⟨rfl, vs, SqL.of hv⟩
  | frl hq rs => exact .inl ⟨rfl, _, hq.sq⟩
  | _ => cases e
theorem Bu {o e : Expr} {es : List Expr} {mo : ME} {mr : MA} {name : Str} {apos cpos : Pos} {id : String} {r : V -> List V -> Hp -> VK -> Prop} {f : D -> List D -> Hh -> R D} (slot : Slot "list" name id) (hty : typeOf (.builtin id) = pure (.type "method_descriptor")) (hm : MtM X id r) (im : C3 X.K g ε f r) (ho : PE X o (tM X.K g ε mo)) (ha : PA X (e :: es) (tMA X.K g ε mr))
    (hbase : attributeBase o name X.env (eval o X.env) = eval o X.env := by rfl)
    (hfew : ((backTo cpos (starEach (e :: es) X.env)).all (fun x => !x.1) && (backToKw cpos (keywordEach [] X.env)).all (fun x => x.1.isSome)
      && decide ((e :: es).length + ([] : List Keyword).length + (if ([] : List Keyword).isEmpty then 0 else 1) < 30)) = true := by rfl)
    (hline : (apos.endLine == cpos.line) = true := by rfl) (hs : starEach (e :: es) X.env = (false, eval e X.env) :: starEach es X.env := by rfl) (hplain : (backTo cpos (starEach es X.env)).any (·.1) = false := by rfl) :
    PE X (.Call (.Attribute o name apos) (e :: es) [] cpos) (tM X.K g ε (lg f mo mr)) :=
  PE.imp (CG PySem.F.plainAttrs_list slot hty hm ho ha hbase hfew hline hs hplain) fun σ H Q ⟨α, env, h, s, w⟩ => tM.use s w.bind fun d1 h1 v1 H1 α1 e1 s1 r1 w1 => by
    obtain ⟨hl, w1⟩ := WQ.eW w1
    refine ⟨zg s1.heap r1 hl, tMA.use s1 (w1.ext e1).bind fun d2 h2 v2 H2 α2 e2 s2 r2 w2 => ?_⟩
    exact im α2 H2 h2 d1 d2 v1 v2 Q s2.heap (r1.ext e2) r2 ((w2.ext e2).mono fun _ _ _ p => aF.ext (e1.trans e2) p)
noncomputable def qH : V -> List V -> Hp -> VK -> Prop := fun x vs H Q => ∃ l b xs zs, x = .ref l /\ vs = [.ref b] /\ H l = some (.lst xs) /\ Rd H b (.lst zs) /\ xs.length + zs.length <= sizeLine /\ Q .non (upd H l (.lst (xs ++ zs)))
theorem rD : MtM X "list.extend" qH := by
  intro pins s σ H x vs v us Q I rx rv h
  obtain ⟨l, b, xs, zs, rfl, rfl, hH, hB, hz, q⟩ := h
  cases rx
  obtain ⟨u, rfl, ru⟩ := rv.one
  cases ru
  obtain ⟨z, its, n, r, hl, e⟩ := I.BS hH
  obtain ⟨its2, n2, z2, r2, hl2, e2⟩ := xP I hB
  have hsz : its.toArray.size + its2.toArray.size <= sizeLine := by rw [List.size_toArray, List.size_toArray]; omega
  have hlong : ¬ (!its.toArray.isEmpty && Builtin.List.listTooLong (its.toArray.size + its2.toArray.size)) = true := by
    rw [p9 hsz, Bool.and_false]
    exact Bool.false_ne_true
  refine call_meets F.slot_list_extend ⟨_, e, rfl⟩ F.entry_list_extend (F.args_list_extend_2 _ _)
    (AutoSeq1.list_extend_list_list_0 l its.toArray n b its2.toArray n2 hlong (by rw [List.size_toArray]; omega) (by omega)) ⟨e, e2, ?_⟩
  refine ⟨.non, _, I.Co (its' := its ++ its2) hH e (by simp) (r.append r2) ?_, rfl, q⟩
  rw [List.length_append]
  omega
noncomputable def fJ : D -> List D -> Hh -> R D := fun o ds h => match o, ds with
  | .ref n, [d] => match ax h n, jo d h with
    | some xs, some ys => if xs.length + ys.length <= 1000000 then .ok .non (h.set n (.lst (xs ++ ys))) else .bad
    | _, _ => .bad
  | _, _ => .bad
theorem tU : C3 K g ε fJ qH := by
  intro α H h o a y x Q r ro ra w
  unfold fJ at w
  cases ro with
  | @ref n p hp =>
    cases ra with
    | nil => exact w.elim
    | cons rd rr =>
      cases rr with
      | cons _ _ => exact w.elim
      | nil =>
        simp only at w
        cases e : ax h n with
        | none => rw [e] at w; exact w.elim
        | some xs =>
          rw [e] at w
          cases e2 : jo _ h with
          | none => rw [e2] at w; exact w.elim
          | some ys =>
            rw [e2] at w
            obtain ⟨hl, w⟩ := WQ.eW w
            obtain ⟨vs, hv, rs⟩ := r.lst e hp
            obtain ⟨q, us, rfl, hu, rt⟩ := oR r rd e2
            refine ⟨p, q, vs, us, rfl, rfl, hv, hu, eU (by rw [<- rs.length, <- rt.length]; exact hl), ?_⟩
            have x := Ext.write (o := .lst (vs ++ us)) r hp
            exact (show aF K g α H Q _ _ from w) _ _ α x (r.write hp ⟨_, aR, (rs.append rt).ext x⟩) .non
  | _ => exact w.elim
theorem j5 (ns : List Int) : ∀ k, k <= ns.length -> preSum (fun i => ns.getD i 0) k = (ns.take k).sum
  | 0, _ => by simp [preSum]
  | k + 1, h => by
    rw [preSum, j5 ns k (by omega), List.take_succ, List.sum_append]
    rw [List.getD_eq_getElem?_getD, List.getElem?_eq_getElem (by omega)]
    simp
theorem t_ (hc : X.calm = true) : bu X (.builtin "sum") (fun vs H Q => ∃ (p : Addr) (ns : List Int), vs = [.ref p] /\ (SqL X.K H p (ns.map V.int) \/ SqT X.K H p (ns.map V.int)) /\ Q (.int ns.sum) H) := by
  intro pins s σ H xs us Q I r h
  obtain ⟨p, ns, rfl, hq, q⟩ := h
  obtain ⟨u, rfl, rx⟩ := vals1 r
  cases rx
  have hh : X.A.in1.handled = none := I.ok.hd hc
  have fin : ∀ {its : List Value} {o : Obj}, Vals (ns.map V.int) its -> ∀ s', Moved [s.heap.objs.size] (fun a b => b = a) { s with heap := s.heap.push o } s' -> ∀ t', EP X pins σ Q (.int (preSum (fun i => ns.getD i 0) its.toArray.size) t') s' := fun {its o} rv s' mv t' => by
    have hl : its.toArray.size = ns.length := by rw [List.size_toArray, <- rv.length, List.length_map]
    have keep : ∀ b u, s.heap.get? b = some u -> s'.heap.get? b = some u := fun b u e => mv.heap b u (by simp; exact Nat.ne_of_lt (Heap.lt_size e)) (Heap.get?_push_of_some _ e)
    have I' : Inv X pins σ H s' := by
      obtain ⟨hp, gs, dr, tk, os⟩ := s'
      have e1 : gs = s.gens := mv.gens
      have e2 : dr = s.drawn := mv.drawn
      have e3 : os = s.os := mv.os
      subst e1 e2 e3
      exact I.kept (h' := hp) (t' := tk) keep
    refine ⟨.int ns.sum, H, I', ⟨t', ?_⟩, q⟩
    rw [hl, j5 ns _ (Nat.le_refl _), List.take_length]
  have val : ∀ {its : List Value}, Vals (ns.map V.int) its -> ∀ i v, its.toArray[i]? = some v -> ∃ t : Tok, v = Value.int (ns.getD i 0) t := fun {its} rv i v e => by
    obtain ⟨x, hx, rxv⟩ := rv.get' (show its[i]? = some v by simpa using e)
    rw [List.getElem?_map] at hx
    cases en : ns[i]? with
    | none => rw [en] at hx; cases hx
    | some z =>
      rw [en] at hx
      cases hx
      obtain ⟨t, e⟩ := rxv
      exact ⟨t, by rw [List.getD_eq_getElem?_getD, en]; exact e⟩
  rcases hq with hq | hq
  · obtain ⟨its, rv, pl, hz⟩ := I.list hq
    have plt : p < s.heap.objs.size := by obtain ⟨o, e, _⟩ := pl.isList; exact Heap.lt_size e
    have hne : p ≠ s.heap.objs.size := Nat.ne_of_lt plt
    refine call_sum_walkAnyS (wpAny_pyIter_list pl.isList ?_)
    refine ⟨s.heap.objs.size, _, _, _, its.toArray.size, _, _, fun i => ns.getD i 0, rfl, (Walks.list (prog := X.prog) (w := X.w) hh s.heap.objs.size p hne its.toArray).toS, ⟨⟨_, Heap.get?_push_size _ rfl, rfl, rfl⟩, ?_⟩, fun b hb => ?_, val rv, fun s' t' mv => fin rv s' mv t'⟩
    · exact pl.isList.at fun o e => Heap.get?_push_of_some _ e
    · simp at hb
      rcases hb with rfl | rfl
      · exact Heap.lt_size (Heap.get?_push_size _ rfl)
      · exact Nat.lt_trans plt (Heap.lt_size (Heap.get?_push_size _ rfl))
  · obtain ⟨its, rv, pl, hz⟩ := I.tuple hq
    have pt : s.heap.IsTuple p its.toArray := pl
    have hne : p ≠ s.heap.objs.size := Nat.ne_of_lt pl.lt
    refine call_sum_walkAnyS (wpAny_pyIter_tuple pt ?_)
    refine ⟨s.heap.objs.size, _, _, _, its.toArray.size, _, _, fun i => ns.getD i 0, rfl, (Walks.tuple (prog := X.prog) (w := X.w) hh s.heap.objs.size p hne its.toArray).toS, ⟨⟨_, Heap.get?_push_size _ rfl, rfl, rfl⟩, ?_⟩, fun b hb => ?_, val rv, fun s' t' mv => fin rv s' mv t'⟩
    · exact pt.at fun o e => Heap.get?_push_of_some _ e
    · simp at hb
      rcases hb with rfl | rfl
      · exact Heap.lt_size (Heap.get?_push_size _ rfl)
      · exact Nat.lt_trans pl.lt (Heap.lt_size (Heap.get?_push_size _ rfl))
noncomputable def t8 : List D -> Hh -> R D := fun ds h => match ds with
  | [d] => match gk d h with
    | some xs => match intsOf xs with
      | some ns => .ok (.int ns.sum) h
      | none => .bad
    | none => .bad
  | _ => .bad
theorem AY : kj K g ε t8 (fun vs H Q => ∃ (p : Addr) (ns : List Int), vs = [.ref p] /\ (SqL K H p (ns.map V.int) \/ SqT K H p (ns.map V.int)) /\ Q (.int ns.sum) H) := by
  intro α H h a x Q r ra w
  obtain ⟨d, v, rfl, rfl, rd⟩ := jF (f := t8) (fun _ _ _ _ => rfl) (fun _ => rfl) ra w
  unfold t8 at w
  simp only at w
  cases e : gk d h with
  | none => rw [e] at w; exact w.elim
  | some ds =>
    rw [e] at w
    simp only at w
    cases e2 : intsOf ds with
    | none => rw [e2] at w; exact w.elim
    | some ns =>
      rw [e2] at w
      obtain ⟨p, vs, rfl, hq, rs⟩ := o9 r rd e
      have e3 := gP e2
      subst e3
      have e4 := rs.wz
      subst e4
      exact ⟨p, ns, rfl, hq, aF.now w r (.int _)⟩
noncomputable def qK : D -> D -> Hh -> R D
  | .int i, .int j, h => .ok (.int (i + j)) h
  | _, _, _ => .bad
theorem Bb : de K g ε qK (ipI fun i j => i + j) := by
  intro α H h a b x y Q r ra rb w
  unfold qK at w
  cases ra with
  | int i =>
    cases rb with
    | int j => exact ⟨i, j, rfl, rfl, aF.now w r (.int _)⟩
    | _ => exact w.elim
  | _ => exact w.elim
end
section
variable {P : Program} {w : World} {K : PySem.W.Frag} {mg : Str -> Option Value} {base : Heap} {g : GG}
noncomputable def aJ (K : PySem.W.Frag) (mg : Str -> Option Value) (x : Str) (st : Stmt) : Prop := ∃ f fd, mg x = some (.ref f) /\ Fun K x x st f fd
noncomputable def bH (K : PySem.W.Frag) (x : Str) (st : Stmt) : Prop := ∃ f fd, PySem.W.nsIn K mainGlobals x = some (some (.ref f)) /\ Fun K x x st f fd
theorem a_ {x : Str} {st : Stmt} {f : Addr} {oc : Value} {od an : Option Addr} {osl : Array (Option Value)} {kV doc pm cdv ct : Value} (a : PySem.W.nsIn K mainGlobals x = some (some (.ref f)))
    (l : K.lookup f = some ⟨oc, od, .func (PySem.W.fnOf x x (jm st) (fS st) (au st) .none kV doc pm an cdv ct), osl⟩) (c : PySem.W.codeIn K cdv x = true) (k : PySem.W.keepIn K (.ref f) = true) : bH K x st := ⟨f, _, a, zY l c k⟩
theorem aJ.of {h : Heap} {x : Str} {st : Stmt} (X : K.In h) (G : h.Ns mainGlobals mg) (d : bH K x st) : aJ K mg x st :=
  let ⟨f, fd, a, F⟩ := d; ⟨f, fd, PySem.W.mg_of X G a, F⟩
noncomputable def Has (P : Program) (w : World) (K : PySem.W.Frag) (mg : Str -> Option Value) (base : Heap) (g : GG) (x : Str) (k : Nat) (ps : List Str) (m : MF) : Prop :=
  ∃ f fd, fo P w K mg base CX0 k f fd ps (spM K g ps.length m) /\ PySem.W.keepIn K (.ref f) = true /\ Binds K fd ps [] /\ mg x = some (.ref f) /\ ∃ (oc : Value) (od : Option Addr) (osl : Array (Option Value)), K.lookup f = some ⟨oc, od, .func fd, osl⟩
noncomputable def gOf (mg : Str -> Option Value) : GG := fun x => match mg x with
  | some (.ref f) => some f
  | _ => none
theorem aP {x : Str} {st : Stmt} {f : Addr} {fd : FuncData} (F : Fun K x x st f fd) : ∃ (oc : Value) (od : Option Addr) (osl : Array (Option Value)), K.lookup f = some ⟨oc, od, .func fd, osl⟩ := by
  obtain ⟨oc, od, kV, doc, pm, an, cdv, ct, osl, rfl, lk, hcd⟩ := F.ex
  exact ⟨oc, od, osl, lk⟩
theorem Ag {x : Str} {st : Stmt} {f : Addr} {fd : FuncData} {k : Nat} {ps : List Str} {m : MF} (F : Fun K x x st f fd) (hm : mg x = some (.ref f)) (h : Has P w K mg base g x k ps m) : fo P w K mg base CX0 k f fd ps (spM K g ps.length m) := by
  obtain ⟨f2, fd2, G, _, _, hm2, oc, od, osl, l2⟩ := h
  obtain ⟨oc', od', osl', l1⟩ := aP F
  rw [hm] at hm2
  cases hm2
  rw [l1] at l2
  cases l2
  exact G
end
section
variable {X : Cx} {g : GG} {ε : EE}
noncomputable def vG (i j : Nat) (m : ME) : MS := fun env h => (m env h).bind fun d h1 => (gT2 i j d env h1).bind fun e h2 => .ok (.nx e) h2
theorem CF {i j : Nat} {x y : Str} {e : Expr} {me : ME} {px py pt pos : Pos} {kt} (hc : X.calm = true) (hN : X.N.Nodup) (hi : X.N[i]? = some x) (hj : X.N[j]? = some y) (he : PE X e (tM X.K g ε me))
    (hx : Loc X.env.scope x := by first | exact Or.inl rfl | exact Or.inr rfl) (hy : Loc X.env.scope y := by first | exact Or.inl rfl | exact Or.inr rfl)
    (fx : X.fn x = true \/ X.env.scope.names.lookup x = some .local := by first | exact .inl rfl | exact .inr rfl) (fy : X.fn y = true \/ X.env.scope.names.lookup y = some .local := by first | exact .inl rfl | exact .inr rfl)
    (hs : swapsWithSole [.Tuple [.Name x px, .Name y py] kt pt] e pos.line X.env = pure false := by rfl) (hw : swappedStores [.Tuple [.Name x px, .Name y py] kt pt] e X.env = pure none := by rfl) :
    PS X (.Assign [.Tuple [.Name x px, .Name y py] kt pt] e pos) (tMS X.K g ε (vG i j me)) :=
  PS.imp (vy he (rK hc (fB (bz hN hi hx fx) (fB (bz hN hj hy fy) pI))) hs hw rfl) fun E σ H ⟨α, env, h, s, w⟩ => tM.use s w.bind fun d1 h1 v1 H1 α1 e1 s1 r1 w1 => by
    refine vL (ε := ε) α1 H1 h1 env σ d1 v1 _ s1 r1 ((w1.ext e1).bind.mono fun e' h2 _ w2 σ2 H2 α2 e2 s2 => ?_)
    exact (show bP X.K g α H E (.nx e') h2 from w2) H2 α2 (e1.trans e2) s2.heap σ2 s2.vs
theorem z_ {i j : Nat} {x y : Str} {a b : Expr} {ma : MA} {px py pt pos : Pos} {kt k2 pt2} (hc : X.calm = true) (hN : X.N.Nodup) (hi : X.N[i]? = some x) (hj : X.N[j]? = some y) (hij : i ≠ j) (ha : PA X [a, b] (tMA X.K g ε ma))
    (hx : X.env.scope.names.lookup x = some .local := by rfl) (hy : X.env.scope.names.lookup y = some .local := by rfl)
    (hw : swappedStores [.Tuple [.Name x px, .Name y py] kt pt] (.Tuple [a, b] k2 pt2) X.env = pure (some [x, y]) := by rfl)
    (hs : swapsWithSole [.Tuple [.Name x px, .Name y py] kt pt] (.Tuple [a, b] k2 pt2) pos.line X.env = pure false := by rfl) :
    PS X (.Assign [.Tuple [.Name x px, .Name y py] kt pt] (.Tuple [a, b] k2 pt2) pos) (tMS X.K g ε (sf i j ma)) := CA hc hN hi hj hij hx hy ha hw hs
end
theorem AK {k : Nat} {m : MF} {l : PySem.W.OpenLaw} {q : Program} {loose : List Str} {XP : (Str -> Option Value) -> Heap -> Prop} {YP : World -> Heap -> Prop} {d : DefRec} {K : Params -> PySem.W.Frag} (hn : l.most = some 63) (hdf : d.params.defaults = []) (hr : fu k callerA)
    (hY : ∀ (w : World) (h : Heap), YP w h -> (K w.params).In h)
    (ok : ∀ ns : List Int, ns.length <= 63 -> ∃ h, m [.scr (ns.map D.int)] [] = .ok (.bl true) h)
    (F : ∀ (w : World) (mg : Str -> Option Value) (fa : Addr) (h : Heap), (K w.params).In h -> h.Ns mainGlobals mg -> mg d.name = some (.ref fa) →
      ∃ fd : FuncData, (∀ (s : Shared) (u : Value), BindsTo s fd ⟨[u], []⟩ [("_law_script", u)]) /\ ∀ base : Heap, (K w.params).In base -> base.Ns mainGlobals mg -> fo l.prog w (K w.params) mg base CX0 k fa fd ["_law_script"] (spM (K w.params) (gOf mg) 1 m)) :
    PySem.W.WalkO q loose XP YP l.row.toRowW d [] (fun f vs => PySem.call f vs) := by
  refine L2.zj (n := 63) (k := k) (x := "_law_script") (CX := fun _ => CX0) (sp := fun w => fun vs H Q _ => ∃ a ns, vs = [V.ref a] /\ ns.length <= 63 /\ x8 H /\ SqL (K w.params) H a (ns.map V.int) /\ ∀ v H', v = V.bl true -> Q v H') hn (by decide) hdf hr hY (fun w mg fa h KX G hmg => ?_) (fun w H a ns hl hO hS => ⟨a, ns, rfl, hl, hO, hS, fun _ _ z => z⟩) fun _ _ _ _ _ z => z
  obtain ⟨fd, hb, hF⟩ := F w mg fa h KX G hmg
  refine ⟨fd, hb, fun base kb nb => (hF base kb nb).imp fun vs H Q E z => ?_⟩
  obtain ⟨a, ns, rfl, hl, hO, hS, hQ⟩ := z
  obtain ⟨hh, e⟩ := ok ns hl
  refine ⟨rfl, [], [.scr (ns.map D.int)], [], .cons (.scr ?_ (ar.ints ns)) .nil, ⟨rfl, fun n m p z => by simp at z, fun n p o z => by simp at z⟩, ?_⟩
  · rcases hS with (hS | ⟨o, hS⟩) | hS
    · rcases hO a with z | ⟨o, xs, z⟩
      · rw [hS] at z; cases z
      · rw [hS] at z; cases z
    · exact .inl ⟨o, hS⟩
    · exact .inr hS
  · rw [e]
    intro v H' α' _ _ rd
    cases rd
    exact hQ _ _ rfl
section
variable {X : Cx} {K : PySem.W.Frag} {g : GG} {ε : EE}
noncomputable def uv : D -> D -> Hh -> R D := fun a b h => match a with
  | .ref n => dIx (.ref n) b h
  | _ => .bad
noncomputable def l5 (o i v : ME) : MS := fun env h => (o env h).bind fun x h1 => (i env h1).bind fun y h2 => (uv x y h2).bind fun z h3 => (v env h3).bind fun u h4 => (qK z u h4).bind fun t h5 => (dF x y t h5).bind fun _ h6 => .ok (.nx env) h6
theorem xW : CZ X (fun x y H Q => Av X.K x y H Q) := by
  intro pins s σ H o i ov iv Q I ro ri h
  obtain ⟨p, xs, k, z, rfl, rfl, hq, he, q⟩ := h
  cases ro
  obtain ⟨t, rfl⟩ := ri
  obtain ⟨its, r, pl, hz⟩ := I.list hq
  obtain ⟨j, h1, h2, h3, h4, h5⟩ := kF he
  obtain ⟨w, ew, rw'⟩ := r.get h2
  have hl := r.length
  have hn := gT
  have fin : EP X pins σ Q w s := ⟨z, H, I, rw', q⟩
  by_cases h0 : 0 <= k
  · have hj : k.toNat = j := by
      rw [seqIndex_of h0 h5] at h1
      exact Option.some.inj h1
    exact wpAny_getItem_list pl.isList h0 (by omega) (by rw [hj]; simpa using ew) fin
  · have hj : (k + (its.toArray.size : Int)).toNat = j := by
      rw [seqIndex_neg (by omega) h4] at h1
      rw [List.size_toArray, <- hl]
      exact Option.some.inj h1
    exact wpAny_getItem_list_neg pl.isList (by omega) (by rw [List.size_toArray] <;> omega) (by omega) (by rw [hj]; simpa using ew) fin
theorem yO {o i e : Expr} {mo mi me : ME} {tpos pos : Pos} (ho : PE X o (tM X.K g ε mo)) (hi : PE X i (tM X.K g ε mi)) (he : PE X e (tM X.K g ε me))
    (ha : ∀ ov iv new, augStore i ov iv new = (do holding [new, ov, iv] (setItem ov iv new); release [new, ov, iv] []; pure .next) := by intros; rfl) : PS X (.AugAssign (.Subscript o i tpos) .Add e pos) (tMS X.K g ε (l5 mo mi me)) :=
  PS.imp (yq ho hi xW he Be set_list ha) fun E σ H ⟨α, env, h, s, w⟩ => tM.use s w.bind fun d1 h1 v1 H1 α1 e1 s1 r1 w1 => tM.use s1 (w1.ext e1).bind fun d2 h2 v2 H2 α2 e2 s2 r2 w2 => by
    have w3 := (w2.ext e2).bind
    have r1' := r1.ext e2
    unfold uv at w3
    cases r1' with
    | @ref n p hp =>
      simp only [dIx] at w3
      cases eq : gk (.ref n) h2 with
      | none => simp only [eq] at w3; exact w3.elim
      | some ds =>
        simp only [eq] at w3
        cases r2 with
        | int k =>
          cases ea : atI ds k with
          | none => simp only [ea] at w3; exact w3.elim
          | some z =>
            simp only [ea] at w3
            have w4 : WQ X.K g ε α2 H2 ((me env h2).bind _) _ := w3
            have eq' : ax h2 n = some ds := eq
            obtain ⟨vs', hv', rs'⟩ := s2.heap.lst eq' hp
            obtain ⟨v', ev', rv'⟩ := sN rs' ea
            refine ⟨p, vs', k, v', rfl, rfl, SqL.of hv', ev', tM.use s2 w4.bind fun d3 h3 v3 H3 α3 e3 s3 r3 w5 => ?_⟩
            refine Bb (K := X.K) (g := g) (ε := ε) α3 H3 h3 z d3 v' v3 _ s3.heap (rv'.ext e3) r3 ((w5.ext e3).bind.mono fun t h4 _ w6 v4 H4 α4 e4 hr4 r4 => ?_)
            refine jq (K := X.K) (g := g) (ε := ε) α4 H4 h4 (.ref n) (.int k) t (.ref p) (.int k) v4 _ hr4 (.ref ((e3.trans e4).get hp)) (.int k) r4 (((w6.ext e4)).bind.mono fun _ h5 _ w7 H5 α5 e5 hr5 => ?_)
            exact (show bP X.K g α H E (.nx env) h5 from w7) H5 α5 (e1.trans (e2.trans (e3.trans (e4.trans e5)))) hr5 _ (s3.vs.ext (e4.trans e5))
        | _ => exact w3.elim
    | _ => exact w3.elim
theorem um (its : List Value) : slicePick its.toArray none none (some (-1)) = its.reverse.toArray := by
  have h := pW its.toArray
  unfold slicePick
  have e1 : sliceBounds none none (some (-1)) its.toArray.size = ((its.toArray.size : Int) - 1, -1, -1) := rfl
  rw [e1]
  have e2 : sliceRange ((its.toArray.size : Int) - 1) (-1) (-1) = (List.range its.toArray.size).map fun (k : Nat) => ((its.toArray.size : Int) - 1 + (k : Int) * (-1)).toNat := by
    unfold sliceRange
    have e3 : (if (-1 : Int) > 0 then (if ((its.toArray.size : Int) - 1) < -1 then (-1 - ((its.toArray.size : Int) - 1) + -1 - 1) / -1 else 0) else (if ((its.toArray.size : Int) - 1) > -1 then (((its.toArray.size : Int) - 1) - -1 - -1 - 1) / (- -1) else 0)).toNat = its.toArray.size := by
      rw [if_neg (by decide), show (- -1 : Int) = 1 by decide, Int.ediv_one]
      split <;> omega
    simp only
    rw [e3]
    apply List.map_congr_left
    intro k _
    congr 1
    omega
  rw [e2, List.filterMap_map]
  exact h
noncomputable def CK (K : PySem.W.Frag) (te : TE) : TE := fun σ H Q => te σ H fun x H1 => ∃ a xs, x = .ref a /\ ((SqT K H1 a xs /\ ∀ p, H1 p = none -> Q (.ref p) (upd H1 p (.tup xs.reverse))) \/ (SqL K H1 a xs /\ ∀ p, H1 p = none -> Q (.ref p) (upd H1 p (.lst xs.reverse))))
theorem yP {e : Expr} {te : TE} {j p1 p2 p3 pos} (he : PE X e te) : PE X (.Subscript e (.Slice none none (some (.UnaryOp .USub (.Constant (.int 1) j p1) p3)) p2) pos) (CK X.K te) := by
  intro pins s σ H Q I h
  refine Subscript_ (thn (he pins s σ H _ I h) fun v s1 ⟨x, H1, I1, r1, q1⟩ => ?_)
  obtain ⟨a, xs, rfl, q⟩ := q1
  cases r1
  refine wpAny_Slice (evalPart_none_step (evalPart_none_step (evalPart_some_step ?_)))
  refine thn (CU (X := X) zV vk pins s1 σ H1 (fun v H' => v = .int (-1) /\ H' = H1) I1 ⟨1, rfl, rfl, rfl⟩) fun u s2 ⟨v2, H2, I2, r2, e1, e2⟩ => ?_
  subst e1 e2
  obtain ⟨tk, rfl⟩ := r2
  have I4 : Inv X pins σ H2 { s2 with heap := s2.heap.push { cls := .type "slice", data := .fields #[.none, .none, .int (-1) tk] } } := I2.kept (t' := s2.toks) fun b ob q => Heap.get?_push_of_some _ q
  rcases q with ⟨hx, q⟩ | ⟨hx, q⟩
  · obtain ⟨its, r, ht, hz⟩ := I4.tuple hx
    have hlen : its.toArray.size = xs.length := by rw [List.size_toArray]; exact r.length.symm
    refine tail_any (ops := [.ref a, .ref s2.heap.objs.size]) ht.typeIs PyProof.Rows.slot_tuple_getitem.lookup (jx ht (Heap.IsSliceOf.new ..) ?_ (by rw [hlen]; exact hz)) (by with_unfolding_all rfl)
    refine ⟨.ref _, _, I4.laid (t' := s2.toks) (o := .tup xs.reverse) (fun b ob q => Heap.get?_push_of_some _ q) (Nat.le_refl _) ?_, rfl, q _ (I4.hok.fresh (Nat.le_refl _))⟩
    exact ⟨by rw [List.length_reverse]; exact hz, its.reverse, r.reverse, ju.new _ _⟩
  · obtain ⟨its, r, pl, hz⟩ := I4.list hx
    have hlen : its.toArray.size = xs.length := by rw [List.size_toArray]; exact r.length.symm
    refine tail_any (ops := [.ref a, .ref s2.heap.objs.size]) pl.isList.typeIs slot_list_getitem.lookup (wpAny_getItem_list_slice pl.isList (Heap.IsSliceOf.new ..) .none .none (.int (-1) tk) (by decide) ?_ (by rw [hlen]; exact hz)) (by with_unfolding_all rfl)
    rw [um]
    refine ⟨.ref _, _, I4.laid (t' := s2.toks) (o := .lst xs.reverse) (fun b ob q => Heap.get?_push_of_some _ q) (Nat.le_refl _) ?_, rfl, q _ (I4.hok.fresh (Nat.le_refl _))⟩
    exact ⟨by rw [List.length_reverse]; exact hz, its.reverse, 0, r.reverse, Heap.get?_push_size _ rfl⟩
noncomputable def nv (nl : NL) : D -> Hh -> R D := fun d h => match d with
  | .tup ds => .ok (.tup ds.reverse) h
  | .frl ds => nl ds.reverse h
  | .ref n => match ax h n with
    | some ds => nl ds.reverse h
    | none => .bad
  | _ => .bad
theorem xQ {nl : NL} [gq nl] {e : Expr} {me : ME} {j p1 p2 p3 pos} (he : PE X e (tM X.K g ε me)) : PE X (.Subscript e (.Slice none none (some (.UnaryOp .USub (.Constant (.int 1) j p1) p3)) p2) pos) (tM X.K g ε (cUn (nv nl) me)) :=
  PE.imp (PE.frz (yP he)) fun σ H Q ⟨α, env, h, s, w⟩ => tM.use s w.bind fun d1 h1 v1 H1 α1 e1 s1 r1 w1 => by
    have w4 := w1.post e1
    unfold nv at w4
    cases r1 with
    | tup hq rs => exact ⟨_, _, rfl, .inl ⟨SqT.of hq, fun l hl => .inl (aF.tup w4 s1.heap rs.rev hl)⟩⟩
    | frl hq rs => exact ⟨_, _, rfl, .inr ⟨hq.sq, fun l hl => NL.post w4 s1.heap rs.rev hl⟩⟩
    | @ref n p hp =>
      simp only at w4
      cases e : ax h1 n with
      | none => rw [e] at w4; exact w4.elim
      | some ds =>
        rw [e] at w4
        obtain ⟨vs, hv, rs⟩ := s1.heap.lst e hp
        exact ⟨_, _, rfl, .inr ⟨SqL.of hv, fun l hl => NL.post w4 s1.heap rs.rev hl⟩⟩
    | _ => exact w4.elim
end
mutual
noncomputable def iE (k : Nat) : D -> Bool
  | .ref n => decide (n < k)
  | .tup ds => bT k ds
  | .frl ds => bT k ds
  | .scr ds => bT k ds
  | _ => true
noncomputable def bT (k : Nat) : List D -> Bool
  | [] => true
  | d :: ds => iE k d && bT k ds
end
noncomputable def qy (k : Nat) : O -> Bool
  | .lst ds => bT k ds
  | .set _ => true
  | .dic kvs => bT k (kvs.map (·.2))
  | .dit kvs => bT k (kvs.map (·.2))
noncomputable def jV (f : D -> Option D) : List D -> Option (List D)
  | [] => some []
  | d :: ds => match f d, jV f ds with
    | some e, some es => some (e :: es)
    | _, _ => none
noncomputable def fX (k : Nat) (h : Hh) : Nat -> D -> Option D
  | 0, _ => none
  | f + 1, d => match d with
    | .ref n => if n < k then some (.ref n) else match ax h n with
      | some ds => (jV (fX k h f) ds).map .frl
      | none => none
    | .tup ds => (jV (fX k h f) ds).map .tup
    | .frl ds => (jV (fX k h f) ds).map .frl
    | .scr _ => none
    | d => some d
noncomputable def il (h : Hh) : D -> Hh -> R D := fun d h' => if (h'.take h.length).all (qy h.length) = true then match fX h.length h' 8 d with
  | some e => .ok e (h'.take h.length)
  | none => .bad else .bad
open Classical in
noncomputable def js (S : Addr -> Prop) (o : Addr -> Obj) (H : Hp) : Hp := fun p => if S p then (H p).map (.frz (o p)) else H p
theorem Ah {P : Program} {w : World} {H : Hp} {h : Heap} {p : Addr} {u : HO} (q : bc P w H h p u) (mu : Mut (some u)) : ∃ o, h.get? p = some o := by
  cases u with
  | lst xs => obtain ⟨_, _, _, _, e'⟩ := q; exact ⟨_, e'⟩
  | dK kvs => obtain ⟨_, _, _, _, o, _, _, e', _⟩ := q; exact ⟨_, e'⟩
  | dT kvs => obtain ⟨_, _, _, _, o, _, _, e', _⟩ := q; exact ⟨_, e'⟩
  | set S n => obtain ⟨o, _, _, _, e', _⟩ := q; exact ⟨_, e'⟩
  | ins C dx fs => obtain ⟨_, _, _, e', _⟩ := q; exact ⟨_, e'⟩
  | ext φ => obtain ⟨_, ⟨_, e'⟩, _⟩ := q; exact ⟨_, e'⟩
  | _ => exact absurd mu (fun z => z)
theorem A0 {outer : List Env} {P : Program} {w : World} {H : Hp} {s : Shared} {Q Q' : VK} {u : Value} {s' : Shared} (h : CE outer P w H s Q' u s')
    (hQ : ∀ v H', Q' v H' -> ∃ S : Addr -> Prop, (∀ p, S p -> ∃ u, H' p = some u /\ Mut (some u)) /\ ∀ o : Addr -> Obj, Q v (js S o H')) : CE outer P w H s Q u s' := by
  obtain ⟨v, H', os, bare, un, hok, r, q⟩ := h
  obtain ⟨S, hS, q⟩ := hQ v H' q
  have hS1 : ∀ p, S p -> ∀ u, H' p = some u -> Mut (some u) := fun p z u e => by obtain ⟨u', e', m⟩ := hS p z; rw [e] at e'; cases e'; exact m
  have off : ∀ (o : Addr -> Obj) b u, H' b = some u -> ¬ Mut (some u) -> js S o H' b = some u := fun o b u e m => by
    unfold js
    rw [if_neg fun z => m (hS1 b z u e)]; exact e
  have offn : ∀ (o : Addr -> Obj) b, H' b = none -> js S o H' b = none := fun o b e => by
    unfold js
    split
    · rw [e]; rfl
    · exact e
  let o : Addr -> Obj := fun b => (s'.heap.get? b).getD { cls := .none, data := .fields #[] }
  refine ⟨v, js S o H', os, bare, ⟨un.keep, un.slot, fun b ob e n hx => offn o b (un.free b ob e n hx), un.there, fun b xs e => off o b _ (un.lM b xs e) fun z => z, fun b ob xs e => off o b _ (un.mE b ob xs e) fun z => z, fun b ps e => ?_⟩, ?_, r, q o⟩
  · obtain ⟨more, e1⟩ := un.oP b ps e
    exact ⟨more, off o b _ e1 fun z => z⟩
  · intro b u e
    have st : ∀ u, bc P w H' s'.heap b u -> bc P w (js S o H') s'.heap b u := fun u x => x.mw (fun _ _ _ z => z) (fun c z => off o c _ z fun z => z) fun c xs z => off o c _ z fun z => z
    unfold js at e
    split at e
    · rename_i hb
      obtain ⟨u', e', m⟩ := hS b hb
      rw [e'] at e
      cases e
      have x := hok b u' e'
      obtain ⟨ob, eo⟩ := Ah x m
      refine ⟨?_, st _ x⟩
      show s'.heap.get? b = some ((s'.heap.get? b).getD _)
      rw [eo]; rfl
    · exact st u (hok b u e)
section
variable {K : PySem.W.Frag} {g : GG} {α α' : List Addr} {H H' H2 : Hp} {k : Nat}
structure qx (K : PySem.W.Frag) (α α' : List Addr) (H' H2 : Hp) (k : Nat) : Prop where
  pre : ∀ n, n < k -> α[n]? = α'[n]?
  tup : ∀ p xs, H' p = some (.tup xs) -> H2 p = some (.tup xs)
  frz : ∀ p (o : Obj) (u : HO), H' p = some (.frz o u) -> H2 p = some (.frz o u)
mutual
theorem oB (L : qx K α α' H' H2 k) : ∀ {d : D} {v : V}, iE k d = true -> aB K g α' H' d v -> aB K g α H2 d v
  | _, _, _, .non => .non
  | _, _, _, .bl b => .bl b
  | _, _, _, .int i => .int i
  | _, _, _, .str x => .str x
  | _, _, hl, .ref h => .ref (by rw [L.pre _ (by simpa [iE] using hl)]; exact h)
  | _, _, hl, .tup h r => .tup (L.tup _ _ h) (gJ L (by simpa [iE] using hl) r)
  | _, _, hl, .frl h r => .frl (let ⟨o, h⟩ := h; ⟨o, L.frz _ _ _ h⟩) (gJ L (by simpa [iE] using hl) r)
  | _, _, hl, .scr h r => .scr (h.elim (fun ⟨o, h⟩ => .inl ⟨o, L.frz _ _ _ h⟩) .inr) (gJ L (by simpa [iE] using hl) r)
  | _, _, _, .fn h => .fn h
  | _, _, _, .edic h => .edic (L.frz _ _ _ h)
  | _, _, _, .exc hg h hc hd hf => .exc hg (L.frz _ _ _ h) hc hd (hf.elim .inl fun ⟨dx, od, a, b⟩ => .inr ⟨dx, od, a, L.frz _ _ _ b⟩)
theorem gJ (L : qx K α α' H' H2 k) : ∀ {ds : List D} {vs : List V}, bT k ds = true -> ar K g α' H' ds vs -> ar K g α H2 ds vs
  | _, _, _, .nil => .nil
  | _, _, hl, .cons r t => by
    simp only [bT, Bool.and_eq_true] at hl
    exact .cons (oB L hl.1 r) (gJ L hl.2 t)
end
theorem jg {f : D -> Option D} (hf : ∀ d e v, f d = some e -> aB K g α' H' d v -> aB K g α H2 e v) : ∀ {ds es : List D} {vs : List V}, jV f ds = some es -> ar K g α' H' ds vs -> ar K g α H2 es vs
  | [], es, _, e, .nil => by cases e; exact .nil
  | d :: ds, es, _, e, .cons r t => by
    unfold jV at e
    split at e
    · rename_i e1 es1 h1 h2
      cases e
      exact .cons (hf _ _ _ h1 r) (jg hf h2 t)
    · cases e
theorem kI {h' hx : Hh} (L : qx K α α' H' H2 k) (r : aN K g α' H' h') (hx' : ∀ n ds, ax hx n = some ds -> ax h' n = some ds) (fz : ∀ n p ds vs, k <= n -> ax hx n = some ds -> α'[n]? = some p -> H' p = some (.lst vs) -> Fr1 H2 p vs) :
    ∀ (f : Nat) (d e : D) (v : V), fX k hx f d = some e -> aB K g α' H' d v -> aB K g α H2 e v
  | 0, _, _, _, e, _ => by cases e
  | f + 1, d, e, v, he, rd => by
    unfold fX at he
    cases rd with
    | non => cases he; exact .non
    | bl b => cases he; exact .bl b
    | int i => cases he; exact .int i
    | str x => cases he; exact .str x
    | fn h => cases he; exact .fn h
    | edic h => cases he; exact .edic (L.frz _ _ _ h)
    | exc hg h hc hd hf => cases he; exact .exc hg (L.frz _ _ _ h) hc hd (hf.elim .inl fun ⟨dx, od, a, b⟩ => .inr ⟨dx, od, a, L.frz _ _ _ b⟩)
    | scr _ _ => cases he
    | tup h rs =>
      simp only at he
      cases e1 : jV (fX k hx f) _ with
      | none => rw [e1] at he; cases he
      | some es => rw [e1] at he; cases he; exact .tup (L.tup _ _ h) (jg (fun d e v => kI L r hx' fz f d e v) e1 rs)
    | frl h rs =>
      simp only at he
      cases e1 : jV (fX k hx f) _ with
      | none => rw [e1] at he; cases he
      | some es => rw [e1] at he; cases he; exact .frl (let ⟨o, h⟩ := h; ⟨o, L.frz _ _ _ h⟩) (jg (fun d e v => kI L r hx' fz f d e v) e1 rs)
    | @ref n p hp =>
      simp only at he
      split at he
      · rename_i hn
        cases he
        exact .ref (by rw [L.pre n hn]; exact hp)
      · rename_i hn
        cases el : ax hx n with
        | none => rw [el] at he; cases he
        | some ds =>
          rw [el] at he
          simp only at he
          cases e1 : jV (fX k hx f) ds with
          | none => rw [e1] at he; cases he
          | some es =>
            rw [e1] at he; cases he
            obtain ⟨vs, hv, rs⟩ := r.lst (hx' n ds el) hp
            exact .frl (fz n p ds vs (by omega) el hp hv) (jg (fun d e v => kI L r hx' fz f d e v) e1 rs)
end
theorem qW {β : Type} {l : List β} {k n : Nat} {x : β} (e : (l.take k)[n]? = some x) : n < k /\ l[n]? = some x := by
  rw [List.getElem?_take] at e
  split at e
  · exact ⟨by assumption, e⟩
  · cases e
theorem sD {α α' : List Addr} (h : α <+: α') {n : Nat} (hn : n < α.length) : α[n]? = α'[n]? := by
  obtain ⟨t, rfl⟩ := h
  rw [List.getElem?_append_left hn]
theorem yn {β : Type} {l : List β} {f : β -> Bool} (h : l.all f = true) {n : Nat} {x : β} (e : l[n]? = some x) : f x = true := List.all_eq_true.mp h x (List.mem_of_getElem? e)
theorem wd {K : PySem.W.Frag} {g : GG} {α α' α2 : List Addr} {H H' H2 : Hp} {h h' : Hh} (r0 : α.length = h.length) (e : Ext K α H α' H') (r : aN K g α' H' h') (hl : (h'.take h.length).all (qy h.length) = true)
    (L : qx K α2 α' H' H2 h.length) (kp : ∀ n p u, n < h.length -> α'[n]? = some p -> H' p = some u -> H2 p = some u) : ∀ (n : Nat) (p : Addr) (o : O), n < h.length -> α'[n]? = some p -> (h'.take h.length)[n]? = some o -> OAt K g α2 H2 p o := by
  intro n p o hn hp ho
  have lo := yn hl ho
  obtain ⟨_, ho'⟩ := qW ho
  have q := r.here n p o hp ho'
  cases o with
  | lst ds => obtain ⟨vs, a, b⟩ := q; exact ⟨vs, kp n p _ hn hp a, gJ L lo b⟩
  | set m => exact kp n p _ hn hp q
  | dic kvs =>
    obtain ⟨kws, a, b⟩ := q
    refine ⟨kws, kp n p _ hn hp a, ?_⟩
    replace lo : bT h.length (kvs.map (·.2)) = true := lo
    clear a ho ho'
    induction b with
    | nil => exact .nil
    | cons x t ih =>
      simp only [List.map_cons, bT, Bool.and_eq_true] at lo
      exact .cons ⟨x.1, oB L lo.1 x.2⟩ (ih lo.2)
  | dit kvs =>
    obtain ⟨kws, a, b⟩ := q
    refine ⟨kws, kp n p _ hn hp a, ?_⟩
    replace lo : bT h.length (kvs.map (·.2)) = true := lo
    clear a ho ho'
    induction b with
    | nil => exact .nil
    | cons x t ih =>
      simp only [List.map_cons, bT, Bool.and_eq_true] at lo
      exact .cons ⟨x.1, oB L lo.1 x.2⟩ (ih lo.2)
section
variable {P : Program} {w : World} {K : PySem.W.Frag} {mg : Str -> Option Value} {base : Heap} {g : GG} {k np : Nat} {f : Addr} {fd : FuncData} {ps : List Str} {m : MF}
theorem pL {CX : CXT} {ε : XK -> EE} (F : fo P w K mg base CX k f fd ps (spG K g ε np m)) : fo P w K mg base CX k f fd ps (spG K g ε np fun ds h => (m ds h).bind (il h)) := by
  refine ⟨fun vs H Q E h => ?_, fun A outer s H args us vs Q E hr e0 hb hv hsp => ?_⟩
  · obtain ⟨hl, α, ds, h, rs, hh, w⟩ := h
    exact F.len vs H (fun _ _ => True) E ⟨hl, α, ds, h, rs, hh, w.bind.mono fun _ _ _ _ _ _ _ _ _ _ => trivial⟩
  · obtain ⟨hl, α, ds, h, rs, hh, w⟩ := hsp
    refine codeAny_mono (F.run A outer s H args us vs (fun v H' => ∃ α' d h', Ext K α H α' H' /\ aN K g α' H' h' /\ aB K g α' H' d v /\ WQ K g (ε E) α H (il h d h') (aF K g α H Q)) E hr e0 hb hv ⟨hl, α, ds, h, rs, hh, w.bind.mono fun d h' _ w1 v H' α' e r rd => ⟨α', d, h', e, r, rd, w1⟩⟩) fun res s' q => ?_
    cases res with
    | error e => exact q
    | ok fl =>
      cases fl with
      | ret u =>
        refine A0 (show CE outer P _ H s _ u s' from q) fun v H' ⟨α', d, h', e, r, rd, w⟩ => ?_
        refine ⟨fun p => ∃ n ds, h.length <= n /\ α'[n]? = some p /\ ax h' n = some ds, fun p ⟨n, ds, _, hp, hn⟩ => ?_, fun o => ?_⟩
        · obtain ⟨vs, hv, _⟩ := r.lst hn hp
          exact ⟨_, hv, trivial⟩
        · unfold il at w
          obtain ⟨hl, w⟩ := WQ.eW w
          cases ez : fX h.length h' 8 d with
          | none => rw [ez] at w; exact w.elim
          | some e' =>
            rw [ez] at w
            generalize hS : (fun p => ∃ n ds, h.length <= n /\ α'[n]? = some p /\ ax h' n = some ds) = S
            have inS : ∀ p, S p ↔ ∃ n ds, h.length <= n /\ α'[n]? = some p /\ ax h' n = some ds := fun p => by rw [<- hS]
            have k0 : α.length = h.length := hh.len
            have notS : ∀ p u, H' p = some u -> (∀ vs, u ≠ .lst vs) -> ¬ S p := fun p u e1 e2 z => by
              obtain ⟨n, ds, _, hp, hn⟩ := (inS p).mp z
              obtain ⟨vs, hv, _⟩ := r.lst hn hp
              rw [e1] at hv; cases hv; exact e2 vs rfl
            have off : ∀ p, ¬ S p -> js S o H' p = H' p := fun p z => by unfold js; rw [if_neg z]
            have L : qx K α α' H' (js S o H') h.length := ⟨fun n hn => sD e.pre (by omega), fun p xs z => by rw [off p (notS p _ z fun vs z => nomatch z)]; exact z, fun p o u z => by rw [off p (notS p _ z fun vs z => nomatch z)]; exact z⟩
            have kp : ∀ n p u, n < h.length -> α'[n]? = some p -> H' p = some u -> js S o H' p = some u := fun n p u hn hp e1 => by
              rw [off p fun z => ?_]; exact e1
              obtain ⟨m, ds, hm, hp', _⟩ := (inS p).mp z
              have := r.inj n m p hp hp'
              omega
            have rd2 : aB K g α (js S o H') e' v := kI L r (fun _ _ z => z) (fun n p ds vs hn hl hp hv => ⟨o p, by unfold js; rw [if_pos ((inS p).mpr ⟨n, ds, hn, hp, hl⟩), hv]; rfl⟩) 8 d e' v ez rd
            refine (show aF K g α H Q e' (h'.take h.length) from w) v _ α ⟨⟨List.prefix_refl _, fun p xs z => L.tup p xs (e.tup p xs z), fun p o u z => L.frz p o u (e.frz p o u z)⟩, fun p u z n => ?_, fun _ z n => absurd z n⟩ ⟨?_, fun n m p h1 h2 => hh.inj n m p h1 h2, fun n p ob h1 h2 => ?_⟩ rd2
            · rw [off p fun z' => ?_]; exact e.keep p u z n
              obtain ⟨m, ds, _, hp', _⟩ := (inS p).mp z'
              have := e.new p (List.mem_of_getElem? hp') n
              rw [z] at this; cases this
            · rw [List.length_take, <- r.len, k0]
              have := e.pre.length_le
              omega
            · have hn : n < h.length := (qW h2).1
              rw [sD e.pre (by omega)] at h1
              exact wd k0 e r hl L kp n p ob hn h1 h2
      | next => exact q
      | brk => exact q
      | cont => exact q
end
end L2.FE
namespace L2
open PySem PySem.Spec PyProof.Rows
noncomputable def Izl (K : PySem.W.Frag) (a b : Addr) : It :=
  ⟨fun i H => ∃ xs ys x y, SqL K H a xs /\ SqL K H b ys /\ xs[i]? = some x /\ ys[i]? = some y,
   fun i H x H' => ∃ p v w, x = .ref p /\ H p = none /\ (∀ xs, SqL K H a xs -> xs[i]? = some v) /\ (∀ ys, SqL K H b ys -> ys[i]? = some w) /\ H' = upd H p (.tup [v, w]),
   fun i H => ∃ xs ys, SqL K H a xs /\ SqL K H b ys /\ (xs.length <= i \/ ys.length <= i)⟩
structure ZA (z TI TO i1 i2 : Addr) : Prop where
  TIz : TI ≠ z
  TOz : TO ≠ z
  i1z : i1 ≠ z
  i2z : i2 ≠ z
  TITO : TI ≠ TO
  TIi1 : TI ≠ i1
  TIi2 : TI ≠ i2
  TOi1 : TO ≠ i1
  TOi2 : TO ≠ i2
  i12 : i1 ≠ i2
noncomputable def zL (z TI TO i1 i2 a b : Addr) (i : Nat) (h : Heap) : Prop :=
  IsZip h z TI TO .none /\ IsPair h TI (.ref i1) (.ref i2) /\ (∃ x y, IsPair h TO x y) /\ h.IsListIter i1 a i /\ h.IsListIter i2 b i
theorem nF {z TI TO i1 i2 a b : Addr} {i : Nat} {h : Heap} {xs ys : Array Value} (A : ZA z TI TO i1 i2) (st : zL z TI TO i1 i2 a b i h) (ha : h.IsList a xs) (hb : h.IsList b ys) : ZipApart z TI TO i1 i2 a b := by
  obtain ⟨hz, hTI, ⟨x, y, hTO⟩, h1, h2⟩ := st
  have cl : ∀ {l : Addr} {vs : Array Value}, h.IsList l vs -> l ≠ z /\ l ≠ TO /\ l ≠ i1 /\ l ≠ i2 := fun {l vs} hl => by
    obtain ⟨oa, qa, ca, _⟩ := hl
    obtain ⟨o1, q1, c1, _⟩ := h1
    obtain ⟨o2, q2, c2, _⟩ := h2
    refine ⟨fun q => ?_, fun q => ?_, fun q => ?_, fun q => ?_⟩
    · rw [q, hz] at qa; cases qa; injection ca with w; exact absurd w (by decide)
    · rw [q, hTO] at qa; cases qa; injection ca with w; exact absurd w (by decide)
    · rw [q, q1] at qa; cases qa; rw [c1] at ca; injection ca with w; exact absurd w (by decide)
    · rw [q, q2] at qa; cases qa; rw [c2] at ca; injection ca with w; exact absurd w (by decide)
  obtain ⟨a1, a2, a3, a4⟩ := cl ha
  obtain ⟨b1, b2, b3, b4⟩ := cl hb
  exact ⟨A.TIz, A.TOz, A.i1z, A.i2z, A.TITO, A.TIi1, A.TIi2, A.TOi1, A.TOi2, A.i12, a1, a2, a3, a4, b1, b2, b3, b4⟩
theorem tY {P : Program} {w : World} {K : PySem.W.Frag} {elts : List Expr} {k : Nat} {pos : Pos} {a b z TI TO i1 i2 : Addr} (A : ZA z TI TO i1 i2) : Turn P w K (.Tuple elts k pos) (Izl K a b) [z, TI, TO, i1, i2] z (zL z TI TO i1 i2 a b) where
  mem := by simp
  obj := fun i h st c hc => by
    obtain ⟨hz, hTI, ⟨x, y, hTO⟩, ⟨o1, q1, _, d1⟩, ⟨o2, q2, _, d2⟩⟩ := st
    simp only [List.mem_cons, List.not_mem_nil, or_false] at hc
    rcases hc with e | e | e | e | e <;> rw [e]
    · exact ⟨_, hz, fun v q => nomatch q⟩
    · exact ⟨_, hTI, fun v q => nomatch q⟩
    · exact ⟨_, hTO, fun v q => nomatch q⟩
    · exact ⟨o1, q1, fun v y => by rw [d1] at y; cases y⟩
    · exact ⟨o2, q2, fun v y => by rw [d2] at y; cases y⟩
  keep := fun i h h' st kk => by
    obtain ⟨hz, hTI, ⟨x, y, hTO⟩, h1, h2⟩ := st
    exact ⟨kk z (by simp) _ hz, kk TI (by simp) _ hTI, ⟨x, y, kk TO (by simp) _ hTO⟩, h1.at fun o q => kk i1 (by simp) o q, h2.at fun o q => kk i2 (by simp) o q⟩
  item := by
    intro X hP hw hK hc i pins s σ H E I hf st hg
    subst hP hw hK
    obtain ⟨xs, ys, x, y, hq, hr, hx, hy⟩ := hg
    obtain ⟨its, rv, p, hz⟩ := I.list hq
    obtain ⟨jts, rw', p', hz'⟩ := I.list hr
    obtain ⟨u, hu, ru⟩ := rv.get hx
    obtain ⟨u', hu', ru'⟩ := rw'.get hy
    have D := nF A st p.isList p'.isList
    obtain ⟨z1, z2, ⟨t1, t2, z3⟩, z4, z5⟩ := st
    refine wpAny_pyNext_zip_item D z1 z2 z3 z4 z5 p.isList p'.isList (x := u) (y := u') (by simpa using hu) (by simpa using hu') fun h1 a1 a2 a3 a4 a5 a6 k1 => ?_
    refine ⟨_, rfl, wpAny_letOwnedTupleGo_zip a1 fun h2 b1 b2 => ?_⟩
    have lt : ∀ {c o}, s.heap.get? c = some o -> s.heap.objs.size ≠ c := fun e => Nat.ne_of_gt (Heap.lt_size e)
    have kk : ∀ c o, c ∉ [z, TI, TO, i1, i2] -> s.heap.get? c = some o -> h2.get? c = some o := fun c o hc q => by
      simp only [List.mem_cons, List.not_mem_nil, or_false, not_or] at hc
      exact b2.extBut _ _ hc.1 (k1 c o hc.1 hc.2.2.1 hc.2.2.2.1 hc.2.2.2.2 q)
    have hn : H s.heap.objs.size = none := I.hok.fresh (Nat.le_refl _)
    have hzT : s.heap.objs.size ≠ z := lt z1
    have nTf : ∀ c ∈ [z, TI, TO, i1, i2], c ≠ s.heap.objs.size := fun c hc => by
      simp only [List.mem_cons, List.not_mem_nil, or_false] at hc
      rcases hc with e | e | e | e | e <;> rw [e]
      · exact (lt z1).symm
      · exact (lt z2).symm
      · exact (lt z3).symm
      · obtain ⟨o, q, _⟩ := z4; exact (lt q).symm
      · obtain ⟨o, q, _⟩ := z5; exact (lt q).symm
    have hT2 : ju h2 s.heap.objs.size #[u, u'] := ⟨_, b2.extBut _ _ hzT a5, ⟨rfl, _, rfl⟩, rfl⟩
    refine ⟨.ref s.heap.objs.size, upd H s.heap.objs.size (.tup [x, y]), I.yielded (t' := s.toks) hf kk (Nat.le_refl _) ⟨by show 2 <= sizeLine; decide, [u, u'], .cons ru (.cons ru' .nil), hT2⟩, rfl, ⟨_, x, y, rfl, hn, fun l hl => by rw [I.hJ hl hq]; exact hx, fun l hl => by rw [I.hJ hl hr]; exact hy, rfl⟩, ?_, fun c hc => by rw [aE (nTf c hc)]; exact (hf c hc).1⟩
    exact ⟨b1, b2.extBut _ _ A.TIz (k1 _ _ A.TIz A.TITO A.TIi1 A.TIi2 z2), ⟨_, _, b2.extBut _ _ A.TOz a2⟩, a3.extBut b2.extBut A.i1z, a4.extBut b2.extBut A.i2z⟩
  done := by
    intro X hP hw hK hc i pins s σ H E I hf st hg
    subst hP hw hK
    obtain ⟨xs, ys, hq, hr, hx⟩ := hg
    obtain ⟨its, rv, p, hz⟩ := I.list hq
    obtain ⟨jts, rw', p', hz'⟩ := I.list hr
    have D := nF A st p.isList p'.isList
    obtain ⟨z1, z2, ⟨t1, t2, z3⟩, z4, z5⟩ := st
    have hl := rv.length
    have hl' := rw'.length
    refine wpAny_pyNext_zip_end (I.ok.hd hc) D z1 z2 z3 z4 z5 p.isList p'.isList ?_ fun h' eb => ⟨rfl, I.kK (t' := s.toks) hf fun b u hb q => eb b u (fun z => hb (by simp [z])) (fun z => hb (by simp [z])) (fun z => hb (by simp [z])) (fun z => hb (by simp [z])) q⟩
    rcases hx with hx | hx
    · exact .inl (Array.getElem?_eq_none (by rw [List.size_toArray]; omega))
    · exact .inr (Array.getElem?_eq_none (by rw [List.size_toArray]; omega))
  self := fun A i s Q E st q => wpAny_pyIter_zip st.1 q
end L2
namespace L2.FE
open PySem PySem.Spec PyProof.Rows
section
variable {X : Cx} {g : GG} {ε : EE} {K : PySem.W.Frag}
noncomputable def je : List D -> List D -> List D
  | x :: xs, y :: ys => D.tup [x, y] :: je xs ys
  | _, _ => []
theorem lj : ∀ {ds es : List D} {i : Nat}, (je ds es)[i]? = match ds[i]?, es[i]? with | some d, some e => some (D.tup [d, e]) | _, _ => none
  | [], _, _ => by simp [je]
  | _ :: _, [], _ => by
    simp only [je, List.getElem?_nil]
    split <;> simp_all
  | _ :: _, _ :: _, 0 => by simp [je]
  | _ :: xs, _ :: ys, i + 1 => by
    simp only [je, List.getElem?_cons_succ]
    exact lj
theorem sV {α : List Addr} {H : Hp} {h : Hh} {d e : D} {v w : V} {p : Addr} (hr : aN K g α H h) (rv : aB K g α H d v) (rw' : aB K g α H e w) (hp : H p = none) :
    ∃ α', Ext K α H α' (upd H p (.tup [v, w])) /\ aN K g α' (upd H p (.tup [v, w])) h /\ aB K g α' (upd H p (.tup [v, w])) (.tup [d, e]) (.ref p) :=
  ⟨α, Ext.fresh hp, hr.grow hp, .tup aR (.cons (rv.ext (Ext.fresh hp)) (.cons (rw'.ext (Ext.fresh hp)) .nil))⟩
theorem uA {α : List Addr} {H : Hp} {a b : Addr} {ds es : List D} {vs ws : List V} (hq : Fro K H a vs) (rs : ar K g α H ds vs) (hq' : Fro K H b ws) (rs' : ar K g α H es ws) : Reads K g (Izl K a b) (Src.snap (je ds es)).rdr α H := by
  intro α2 H2 h2 x2 hr i
  have hq2 : SqL K H2 a vs := (x2.fro _ _ hq).sq
  have hq2' : SqL K H2 b ws := (x2.fro _ _ hq').sq
  have rs2 := rs.ext x2
  have rs2' := rs'.ext x2
  show match some (je ds es)[i]? with | none => True | some none => _ | some (some d) => _
  rw [lj]
  cases e : ds[i]? with
  | none =>
    have : ds.length <= i := List.getElem?_eq_none_iff.mp e
    exact ⟨vs, ws, hq2, hq2', .inl (by rw [<- rs.length]; exact this)⟩
  | some d =>
    cases e' : es[i]? with
    | none =>
      have : es.length <= i := List.getElem?_eq_none_iff.mp e'
      exact ⟨vs, ws, hq2, hq2', .inr (by rw [<- rs'.length]; exact this)⟩
    | some d' =>
      obtain ⟨v, ev, rv⟩ := rs2.get e
      obtain ⟨v', ev', rv'⟩ := rs2'.get e'
      refine ⟨⟨vs, ws, v, v', hq2, hq2', ev, ev'⟩, fun x H' y => ?_⟩
      obtain ⟨p, u, u', e1, hp, e2, e2', e3⟩ := y
      subst e1 e3
      have := e2 vs hq2
      rw [ev] at this
      cases this
      have := e2' ws hq2'
      rw [ev'] at this
      cases this
      exact sV hr rv rv' hp
end
end L2.FE
namespace L2
open PySem PySem.Spec PyProof.Rows
section
variable {prog : Program} {w : World} {A : Around} {E : Value -> Shared -> Prop} {s : Shared}
theorem t4 {z U V a b p q : Addr} {i j : Nat} {xs ys : Array Value} {x y v1 v2 : Value} {Q : Value -> Shared -> Prop} (D : ZipApart z U V a b p q) (hz : IsZip s.heap z U V .none) (hU : IsPair s.heap U (.ref a) (.ref b)) (hV : IsPair s.heap V v1 v2)
    (ha : s.heap.IsTupleIter a p i) (hb : s.heap.IsTupleIter b q j) (hp : s.heap.IsTuple p xs) (hq : s.heap.IsTuple q ys) (hx : xs[i]? = some x) (hy : ys[j]? = some y)
    (K : ∀ h', IsZip h' z U V (rawInt s.heap.objs.size) -> IsPair h' V x y -> h'.IsTupleIter a p (i + 1) -> h'.IsTupleIter b q (j + 1) -> IsPair h' s.heap.objs.size x y -> h'.objs.size = s.heap.objs.size + 1 -> (∀ c o, c ≠ z -> c ≠ V -> c ≠ a -> c ≠ b -> s.heap.get? c = some o -> h'.get? c = some o) -> Q (.ref s.heap.objs.size) { s with heap := h' }) :
    wpAny (model prog w) A (Builtin.«zip.__next__» ⟨[.ref z], []⟩) (fun f s' => ∃ v, f = .done (.ret v) /\ Q v s') E s := by
  show wpAny _ _ (field (.ref z) 2 >>= _) _ _ _; refine wpAny_bind (wpAny_field hz rfl (x := .bool false) rfl ?_); show wpAny _ _ (field (.ref z) 3 >>= _) _ _ _
  refine wpAny_bind (wpAny_field hz rfl (x := .ref U) rfl (wpAny_bind (wpAny_seqItems hU rfl ?_)))
  show wpAny _ _ (Builtin.SmallTypes.ownedTupleIsFree (.ref z) >>= _) _ _ _; refine wpAny_bind ?_; unfold Builtin.SmallTypes.ownedTupleIsFree
  refine wpAny_bind (wpAny_field hz rfl (x := .none) rfl (wpAny_pure ?_)); simp only [if_true]
  refine wpAny_bind (wpAny_rule (wpAny_bind (wpAny_field hz rfl (x := .ref V) rfl (wpAny_bind (wpAny_setField_rec hz (by simp) fun g1 z1 m1 => ?_)))))
  replace z1 : IsZip g1 z U V .ellipsis := z1
  refine wpAny_bind ?_; simp only [List.zipIdx_cons, List.zipIdx_nil, List.forIn_cons, List.forIn_nil]
  refine wpAny_bind (wpAny_bind (wpAny_onRaise ?_)); show wpAny _ _ (Builtin.SmallTypes.nextOf (.ref a) >>= _) _ _ _
  refine wpAny_bind (fM (ha.extBut m1.extBut D.i1z) (hp.extBut m1.extBut D.l1z) hx fun g2 a2 m2 => wpAny_pure ?_)
  have V2 : IsPair g2 V v1 v2 := m2.extBut _ _ D.TOi1 (m1.extBut _ _ D.TOz hV)
  refine wpAny_bind (wpAny_seqItems V2 rfl (wpAny_bind (wpAny_updateSeq_pair V2 fun g3 V3 m3 => ?_)))
  replace V3 : IsPair g3 V x v2 := V3
  refine wpAny_bind (wpAny_letGo (wpAny_pure (wpAny_bind (wpAny_bind (wpAny_onRaise ?_))))); show wpAny _ _ (Builtin.SmallTypes.nextOf (.ref b) >>= _) _ _ _
  refine wpAny_bind (fM (((hb.extBut m1.extBut D.i2z).extBut m2.extBut D.i12.symm).extBut m3.extBut D.TOi2.symm) (((hq.extBut m1.extBut D.l2z).extBut m2.extBut D.l2i1).extBut m3.extBut D.l2TO) hy fun g4 b4 m4 => wpAny_pure ?_)
  have V4 : IsPair g4 V x v2 := m4.extBut _ _ D.TOi2 V3
  refine wpAny_bind (wpAny_seqItems V4 rfl (wpAny_bind (wpAny_updateSeq_pair V4 fun g5 V5 m5 => ?_)))
  replace V5 : IsPair g5 V x y := V5
  refine wpAny_bind (wpAny_letGo (wpAny_pure (wpAny_pure (wpAny_bind (wpAny_seqItems V5 rfl (wpAny_bind (wpAny_newTuple ?_)))))))
  have n5 : g5.objs.size = s.heap.objs.size := by rw [m5.1, m4.1, m3.1, m2.1, m1.1]
  have z5 : IsZip g5 z U V .ellipsis := m5.extBut _ _ D.TOz.symm (m4.extBut _ _ D.i2z.symm (m3.extBut _ _ D.TOz.symm (m2.extBut _ _ D.i1z.symm z1)))
  have k5 : ∀ c o, c ≠ z -> c ≠ V -> c ≠ a -> c ≠ b -> s.heap.get? c = some o -> g5.get? c = some o := fun c o c1 c2 c3 c4 e => m5.extBut _ _ c2 (m4.extBut _ _ c4 (m3.extBut _ _ c2 (m2.extBut _ _ c3 (m1.extBut _ _ c1 e))))
  have a5 : g5.IsTupleIter a p (i + 1) := ((a2.extBut m3.extBut D.TOi1.symm).extBut m4.extBut D.i12).extBut m5.extBut D.TOi1.symm
  have b5 : g5.IsTupleIter b q (j + 1) := b4.extBut m5.extBut D.TOi2.symm
  have lz : z < g5.objs.size := Heap.lt_size z5
  show wpAny _ _ (Builtin.SmallTypes.ownedTupleHandOut (.ref z) (.ref g5.objs.size) >>= _) _ _ _; refine wpAny_bind ?_; unfold Builtin.SmallTypes.ownedTupleHandOut
  have z6 : IsZip (g5.push { cls := .type "tuple", data := .seq #[x, y] }) z U V .ellipsis := Heap.get?_push_of_some _ z5
  refine wpAny_bind (wpAny_setField_rec z6 (by simp) fun g7 z7 m7 => ?_)
  replace z7 : IsZip g7 z U V (rawInt g5.objs.size) := z7
  refine wpAny_setField_rec z7 (by simp) fun g8 z8 m8 => ?_
  replace z8 : IsZip g8 z U V (rawInt g5.objs.size) := z8
  have up : ∀ c o, c ≠ z -> g5.get? c = some o -> g8.get? c = some o := fun c o c1 e => m8.extBut _ _ c1 (m7.extBut _ _ c1 (Heap.get?_push_of_some _ e))
  have T8 : IsPair g8 g5.objs.size x y := m8.extBut _ _ (Nat.ne_of_gt lz) (m7.extBut _ _ (Nat.ne_of_gt lz) (Heap.get?_push_size _ rfl))
  have n8 : g8.objs.size = g5.objs.size + 1 := by rw [m8.1, m7.1, Heap.size_push]
  rw [n5] at z8 T8 n8
  refine wpAny_pure ⟨_, rfl, ?_⟩; show Q (.ref g5.objs.size) _; rw [n5]
  exact K g8 z8 (up _ _ D.TOz V5) (a5.at fun o e => up _ o D.i1z e) (b5.at fun o e => up _ o D.i2z e) T8 n8 fun c o c1 c2 c3 c4 e => up c o c1 (k5 c o c1 c2 c3 c4 e)
theorem v8 {z U V a b p q : Addr} {i j : Nat} {xs ys : Array Value} {v1 v2 : Value} {Q : Fin -> Shared -> Prop} (hh : A.handled = none) (D : ZipApart z U V a b p q) (hz : IsZip s.heap z U V .none) (hU : IsPair s.heap U (.ref a) (.ref b)) (hV : IsPair s.heap V v1 v2)
    (ha : s.heap.IsTupleIter a p i) (hb : s.heap.IsTupleIter b q j) (hp : s.heap.IsTuple p xs) (hq : s.heap.IsTuple q ys) (he : xs[i]? = none \/ ys[j]? = none)
    (K : ∀ h' e, (∀ c o, c ≠ z -> c ≠ V -> c ≠ a -> c ≠ b -> s.heap.get? c = some o -> h'.get? c = some o) -> (∃ o, h'.get? e = some o /\ o.cls = .type "StopIteration") -> E (.ref e) { s with heap := h' }) : wpAny (model prog w) A (Builtin.«zip.__next__» ⟨[.ref z], []⟩) Q E s := by
  show wpAny _ _ (field (.ref z) 2 >>= _) _ _ _; refine wpAny_bind (wpAny_field hz rfl (x := .bool false) rfl ?_); show wpAny _ _ (field (.ref z) 3 >>= _) _ _ _
  refine wpAny_bind (wpAny_field hz rfl (x := .ref U) rfl (wpAny_bind (wpAny_seqItems hU rfl ?_)))
  show wpAny _ _ (Builtin.SmallTypes.ownedTupleIsFree (.ref z) >>= _) _ _ _; refine wpAny_bind ?_; unfold Builtin.SmallTypes.ownedTupleIsFree
  refine wpAny_bind (wpAny_field hz rfl (x := .none) rfl (wpAny_pure ?_)); simp only [if_true]
  refine wpAny_bind (wpAny_rule (wpAny_bind (wpAny_field hz rfl (x := .ref V) rfl (wpAny_bind (wpAny_setField_rec hz (by simp) fun g1 z1 m1 => ?_)))))
  replace z1 : IsZip g1 z U V .ellipsis := z1
  refine wpAny_bind ?_; simp only [List.zipIdx_cons, List.zipIdx_nil, List.forIn_cons, List.forIn_nil]
  refine wpAny_bind (wpAny_bind (wpAny_onRaise ?_)); show wpAny _ _ (Builtin.SmallTypes.nextOf (.ref a) >>= _) _ _ _
  cases hx : xs[i]? with
  | none =>
    refine wpAny_bind (hZ hh (ha.extBut m1.extBut D.i1z) (hp.extBut m1.extBut D.l1z) hx fun g2 e m2 ee => ?_)
    obtain ⟨oe, e1, e2⟩ := ee
    have z2 : IsZip g2 z U V .ellipsis := m2 _ _ D.i1z.symm z1
    have ez : e ≠ z := fun u => by subst u; rw [z2] at e1; cases e1; simp at e2
    exact wpAny_setField_rec z2 (by simp) fun g3 _ m3 => K g3 e (fun c o c1 _ c3 _ u => m3.extBut _ _ c1 (m2 _ _ c3 (m1.extBut _ _ c1 u))) ⟨oe, m3.extBut _ _ ez e1, e2⟩
  | some x =>
    have hy : ys[j]? = none := he.resolve_left (by rw [hx]; exact nofun)
    refine wpAny_bind (fM (ha.extBut m1.extBut D.i1z) (hp.extBut m1.extBut D.l1z) hx fun g2 a2 m2 => wpAny_pure ?_)
    have V2 : IsPair g2 V v1 v2 := m2.extBut _ _ D.TOi1 (m1.extBut _ _ D.TOz hV)
    refine wpAny_bind (wpAny_seqItems V2 rfl (wpAny_bind (wpAny_updateSeq_pair V2 fun g3 V3 m3 => ?_)))
    refine wpAny_bind (wpAny_letGo (wpAny_pure (wpAny_bind (wpAny_bind (wpAny_onRaise ?_))))); show wpAny _ _ (Builtin.SmallTypes.nextOf (.ref b) >>= _) _ _ _
    refine wpAny_bind (hZ hh (((hb.extBut m1.extBut D.i2z).extBut m2.extBut D.i12.symm).extBut m3.extBut D.TOi2.symm) (((hq.extBut m1.extBut D.l2z).extBut m2.extBut D.l2i1).extBut m3.extBut D.l2TO) hy fun g4 e m4 ee => ?_)
    obtain ⟨oe, e1, e2⟩ := ee
    have z4 : IsZip g4 z U V .ellipsis := m4 _ _ D.i2z.symm (m3.extBut _ _ D.TOz.symm (m2.extBut _ _ D.i1z.symm z1))
    have ez : e ≠ z := fun u => by subst u; rw [z4] at e1; cases e1; simp at e2
    exact wpAny_setField_rec z4 (by simp) fun g5 _ m5 => K g5 e (fun c o c1 c2 c3 c4 u => m5.extBut _ _ c1 (m4 _ _ c4 (m3.extBut _ _ c2 (m2.extBut _ _ c3 (m1.extBut _ _ c1 u))))) ⟨oe, m5.extBut _ _ ez e1, e2⟩
theorem t7 {z U V a b p q : Addr} {i j : Nat} {xs ys : Array Value} {x y v1 v2 : Value} {Q : Option Value -> Shared -> Prop} (D : ZipApart z U V a b p q) (hz : IsZip s.heap z U V .none) (hU : IsPair s.heap U (.ref a) (.ref b)) (hV : IsPair s.heap V v1 v2)
    (ha : s.heap.IsTupleIter a p i) (hb : s.heap.IsTupleIter b q j) (hp : s.heap.IsTuple p xs) (hq : s.heap.IsTuple q ys) (hx : xs[i]? = some x) (hy : ys[j]? = some y)
    (K : ∀ h', IsZip h' z U V (rawInt s.heap.objs.size) -> IsPair h' V x y -> h'.IsTupleIter a p (i + 1) -> h'.IsTupleIter b q (j + 1) -> IsPair h' s.heap.objs.size x y -> h'.objs.size = s.heap.objs.size + 1 -> (∀ c o, c ≠ z -> c ≠ V -> c ≠ a -> c ≠ b -> s.heap.get? c = some o -> h'.get? c = some o) -> Q (some (.ref s.heap.objs.size)) { s with heap := h' }) :
    wpAny (model prog w) A (pyNext (.ref z)) Q E s := by
  have ty : s.TypeIs (.ref z) "zip" := ⟨_, hz, rfl⟩
  unfold pyNext; refine wpAny_bind (wpAny_attempt (wpAny_callSpecial?_slot (name := Str.ofString "__next__") ty F.slot_zip_next (wpAny_call_entry F.slot_zip_next ty F.entry_zip_next ?_ (F.args_zip_next_1 _))))
  exact t4 D hz hU hV ha hb hp hq hx hy fun h' b1 b2 b3 b4 b5 b6 b7 => wpAny_pure (K h' b1 b2 b3 b4 b5 b6 b7)
theorem wu {z U V a b p q : Addr} {i j : Nat} {xs ys : Array Value} {v1 v2 : Value} {Q : Option Value -> Shared -> Prop} (hh : A.handled = none) (D : ZipApart z U V a b p q) (hz : IsZip s.heap z U V .none) (hU : IsPair s.heap U (.ref a) (.ref b)) (hV : IsPair s.heap V v1 v2)
    (ha : s.heap.IsTupleIter a p i) (hb : s.heap.IsTupleIter b q j) (hp : s.heap.IsTuple p xs) (hq : s.heap.IsTuple q ys) (he : xs[i]? = none \/ ys[j]? = none)
    (K : ∀ h', (∀ c o, c ≠ z -> c ≠ V -> c ≠ a -> c ≠ b -> s.heap.get? c = some o -> h'.get? c = some o) -> Q none { s with heap := h' }) : wpAny (model prog w) A (pyNext (.ref z)) Q E s := by
  have ty : s.TypeIs (.ref z) "zip" := ⟨_, hz, rfl⟩
  unfold pyNext; refine wpAny_bind (wpAny_attempt (wpAny_callSpecial?_slot (name := Str.ofString "__next__") ty F.slot_zip_next (wpAny_call_entry F.slot_zip_next ty F.entry_zip_next ?_ (F.args_zip_next_1 _))))
  refine v8 hh D hz hU hV ha hb hp hq he fun h' e kk ⟨o, ho, hc⟩ => ?_
  exact wpAny_bind (wpAny_isInstance (T := "StopIteration") (b := true) ⟨o, ho, hc⟩ isSubtype_stop (wpAny_pure (K _ kk)))
end
noncomputable def zh1 (h : Heap) (p : Addr) : Heap := h.push { cls := .type "tuple_iterator", data := .fields #[.ref p, .int 0 0] }
noncomputable def zh2 (h : Heap) (p q : Addr) : Heap := (zh1 h p).push { cls := .type "tuple_iterator", data := .fields #[.ref q, .int 0 0] }
noncomputable def zh3 (h : Heap) (p q : Addr) : Heap := (zh2 h p q).push { cls := .type "tuple", data := .seq #[.ref h.objs.size, .ref (zh1 h p).objs.size] }
noncomputable def zh4 (h : Heap) (p q : Addr) : Heap := (zh3 h p q).push { cls := .type "tuple", data := .seq #[.none, .none] }
noncomputable def zh5 (h : Heap) (p q : Addr) : Heap := (zh4 h p q).push { cls := .type "zip", data := .fields #[.none, .bool false, .bool false, .ref (zh2 h p q).objs.size, .ref (zh3 h p q).objs.size] }
theorem r9 (p q : Addr) (xs ys : Array Value) : Meets (Builtin.«zip.__new__» ⟨[.type "zip", .ref p, .ref q], []⟩) (fun _ R s => s.heap.IsTuple p xs /\ s.heap.IsTuple q ys /\ R (.ok (.ret (.ref (zh4 s.heap p q).objs.size))) { s with heap := zh5 s.heap p q }) :=
  .of_wp fun prog w A R s h => by
    obtain ⟨hp, g, d, tk, os⟩ := s; obtain ⟨h1, h2, h⟩ := h
    have sub := sub_zip
    have t1 : Heap.IsTuple (Shared.heap ⟨hp, g, d, tk, os⟩) p xs := h1
    have t2 : Heap.IsTuple (Shared.heap ⟨hp.push { cls := .type "tuple_iterator", data := .fields #[.ref p, .int 0 0] }, g, d, tk, os⟩) q ys := Heap.IsTuple.at h2 fun o e => Heap.get?_push_of_some _ e
    wp_walk using wpAny_pyIter_tuple t1, wpAny_pyIter_tuple t2
    exact ⟨_, rfl, h⟩
section
variable {prog : Program} {w : World} {A : Around} {E : Value -> Shared -> Prop} {s : Shared}
theorem ua {p q : Addr} {xs ys : Array Value} {Q : Value -> Shared -> Prop} (h1 : s.heap.IsTuple p xs) (h2 : s.heap.IsTuple q ys)
    (K : ∀ h', IsZip h' (s.heap.objs.size + 4) (s.heap.objs.size + 2) (s.heap.objs.size + 3) .none -> IsPair h' (s.heap.objs.size + 2) (.ref s.heap.objs.size) (.ref (s.heap.objs.size + 1)) -> IsPair h' (s.heap.objs.size + 3) .none .none -> h'.IsTupleIter s.heap.objs.size p 0 -> h'.IsTupleIter (s.heap.objs.size + 1) q 0 -> (∀ c o, s.heap.get? c = some o -> h'.get? c = some o) -> Q (.ref (s.heap.objs.size + 4)) { s with heap := h' }) :
    wpAny (model prog w) A (call (.type "zip") [.ref p, .ref q]) Q E s := by
  refine callType_new F.called_zip (by decide) (F.typeCall_zip_2 _ _) (F.newCall_zip_2 _ _) (fun obj => F.args_object_init_3 obj _ _) F.entry_zip_new (r9 p q xs ys) ⟨h1, h2, ?_⟩
  have e1 : (zh1 s.heap p).objs.size = s.heap.objs.size + 1 := Heap.size_push ..
  have e2 : (zh2 s.heap p q).objs.size = s.heap.objs.size + 2 := (Heap.size_push ..).trans (by rw [e1])
  have e3 : (zh3 s.heap p q).objs.size = s.heap.objs.size + 3 := (Heap.size_push ..).trans (by rw [e2])
  have e4 : (zh4 s.heap p q).objs.size = s.heap.objs.size + 4 := (Heap.size_push ..).trans (by rw [e3])
  have o5 : (zh5 s.heap p q).get? (zh4 s.heap p q).objs.size = some _ := Heap.get?_push_size _ rfl
  have o4 : (zh5 s.heap p q).get? (zh3 s.heap p q).objs.size = some _ := Heap.get?_push_of_some _ (Heap.get?_push_size _ rfl)
  have o3 : (zh5 s.heap p q).get? (zh2 s.heap p q).objs.size = some _ := Heap.get?_push_of_some _ (Heap.get?_push_of_some _ (Heap.get?_push_size _ rfl))
  have o2 : (zh5 s.heap p q).get? (zh1 s.heap p).objs.size = some _ := Heap.get?_push_of_some _ (Heap.get?_push_of_some _ (Heap.get?_push_of_some _ (Heap.get?_push_size _ rfl)))
  have o1 : (zh5 s.heap p q).get? s.heap.objs.size = some _ := Heap.get?_push_of_some _ (Heap.get?_push_of_some _ (Heap.get?_push_of_some _ (Heap.get?_push_of_some _ (Heap.get?_push_size _ rfl))))
  have kp : ∀ c o, s.heap.get? c = some o -> (zh5 s.heap p q).get? c = some o := fun c o x => Heap.get?_push_of_some _ (Heap.get?_push_of_some _ (Heap.get?_push_of_some _ (Heap.get?_push_of_some _ (Heap.get?_push_of_some _ x))))
  show _ /\ _
  rw [e2, e3, e4] at o5
  rw [e1, e2] at o3
  rw [e3] at o4
  rw [e1] at o2
  rw [e4]
  exact ⟨⟨_, o5, rfl⟩, K _ o5 o3 o4 ⟨_, o1, rfl, rfl⟩ ⟨_, o2, rfl, rfl⟩ kp⟩
end
noncomputable def Izt (K : PySem.W.Frag) (a b : Addr) : It :=
  ⟨fun i H => ∃ xs ys x y, SqT K H a xs /\ SqT K H b ys /\ xs[i]? = some x /\ ys[i]? = some y,
   fun i H x H' => ∃ p v w, x = .ref p /\ H p = none /\ (∀ xs, SqT K H a xs -> xs[i]? = some v) /\ (∀ ys, SqT K H b ys -> ys[i]? = some w) /\ H' = upd H p (.tup [v, w]),
   fun i H => ∃ xs ys, SqT K H a xs /\ SqT K H b ys /\ (xs.length <= i \/ ys.length <= i)⟩
noncomputable def zE (z TI TO i1 i2 a b : Addr) (i : Nat) (h : Heap) : Prop :=
  IsZip h z TI TO .none /\ IsPair h TI (.ref i1) (.ref i2) /\ (∃ x y, IsPair h TO x y) /\ h.IsTupleIter i1 a i /\ h.IsTupleIter i2 b i /\ a ≠ TO /\ b ≠ TO
theorem lE {z TI TO i1 i2 a b : Addr} {i : Nat} {h : Heap} {xs ys : Array Value} (A : ZA z TI TO i1 i2) (st : zE z TI TO i1 i2 a b i h) (ha : h.IsTuple a xs) (hb : h.IsTuple b ys) : ZipApart z TI TO i1 i2 a b := by
  obtain ⟨hz, hTI, ⟨x, y, hTO⟩, h1, h2, na, nb⟩ := st
  have cl : ∀ {l : Addr} {vs : Array Value}, h.IsTuple l vs -> l ≠ z /\ l ≠ i1 /\ l ≠ i2 := fun {l vs} hl => by
    obtain ⟨oa, qa, ca, _⟩ := hl
    obtain ⟨o1, q1, c1, _⟩ := h1
    obtain ⟨o2, q2, c2, _⟩ := h2
    refine ⟨fun q => ?_, fun q => ?_, fun q => ?_⟩
    · rw [q, hz] at qa; cases qa; injection ca with w; exact absurd w (by decide)
    · rw [q, q1] at qa; cases qa; rw [c1] at ca; injection ca with w; exact absurd w (by decide)
    · rw [q, q2] at qa; cases qa; rw [c2] at ca; injection ca with w; exact absurd w (by decide)
  obtain ⟨a1, a3, a4⟩ := cl ha
  obtain ⟨b1, b3, b4⟩ := cl hb
  exact ⟨A.TIz, A.TOz, A.i1z, A.i2z, A.TITO, A.TIi1, A.TIi2, A.TOi1, A.TOi2, A.i12, a1, na, a3, a4, b1, nb, b3, b4⟩
theorem tO {P : Program} {w : World} {K : PySem.W.Frag} {elts : List Expr} {k : Nat} {pos : Pos} {a b z TI TO i1 i2 : Addr} (A : ZA z TI TO i1 i2) : Turn P w K (.Tuple elts k pos) (Izt K a b) [z, TI, TO, i1, i2] z (zE z TI TO i1 i2 a b) where
  mem := by simp
  obj := fun i h st c hc => by
    obtain ⟨hz, hTI, ⟨x, y, hTO⟩, ⟨o1, q1, _, d1⟩, ⟨o2, q2, _, d2⟩, _⟩ := st
    simp only [List.mem_cons, List.not_mem_nil, or_false] at hc
    rcases hc with e | e | e | e | e <;> rw [e]
    · exact ⟨_, hz, fun v q => nomatch q⟩
    · exact ⟨_, hTI, fun v q => nomatch q⟩
    · exact ⟨_, hTO, fun v q => nomatch q⟩
    · exact ⟨o1, q1, fun v y => by rw [d1] at y; cases y⟩
    · exact ⟨o2, q2, fun v y => by rw [d2] at y; cases y⟩
  keep := fun i h h' st kk => by
    obtain ⟨hz, hTI, ⟨x, y, hTO⟩, h1, h2, na, nb⟩ := st
    exact ⟨kk z (by simp) _ hz, kk TI (by simp) _ hTI, ⟨x, y, kk TO (by simp) _ hTO⟩, h1.at fun o q => kk i1 (by simp) o q, h2.at fun o q => kk i2 (by simp) o q, na, nb⟩
  item := by
    intro X hP hw hK hc i pins s σ H E I hf st hg
    subst hP hw hK
    obtain ⟨xs, ys, x, y, hq, hr, hx, hy⟩ := hg
    obtain ⟨its, rv, p, hz⟩ := I.tuple hq
    obtain ⟨jts, rw', p', hz'⟩ := I.tuple hr
    have pt : s.heap.IsTuple a its.toArray := p
    have pt' : s.heap.IsTuple b jts.toArray := p'
    obtain ⟨u, hu, ru⟩ := rv.get hx
    obtain ⟨u', hu', ru'⟩ := rw'.get hy
    have D := lE A st pt pt'
    obtain ⟨z1, z2, ⟨t1, t2, z3⟩, z4, z5, na, nb⟩ := st
    refine t7 D z1 z2 z3 z4 z5 pt pt' (x := u) (y := u') (by simpa using hu) (by simpa using hu') fun h1 a1 a2 a3 a4 a5 a6 k1 => ?_
    refine ⟨_, rfl, wpAny_letOwnedTupleGo_zip a1 fun h2 b1 b2 => ?_⟩
    have lt : ∀ {c o}, s.heap.get? c = some o -> s.heap.objs.size ≠ c := fun e => Nat.ne_of_gt (Heap.lt_size e)
    have kk : ∀ c o, c ∉ [z, TI, TO, i1, i2] -> s.heap.get? c = some o -> h2.get? c = some o := fun c o hc q => by
      simp only [List.mem_cons, List.not_mem_nil, or_false, not_or] at hc
      exact b2.extBut _ _ hc.1 (k1 c o hc.1 hc.2.2.1 hc.2.2.2.1 hc.2.2.2.2 q)
    have hn : H s.heap.objs.size = none := I.hok.fresh (Nat.le_refl _)
    have hzT : s.heap.objs.size ≠ z := lt z1
    have nTf : ∀ c ∈ [z, TI, TO, i1, i2], c ≠ s.heap.objs.size := fun c hc => by
      simp only [List.mem_cons, List.not_mem_nil, or_false] at hc
      rcases hc with e | e | e | e | e <;> rw [e]
      · exact (lt z1).symm
      · exact (lt z2).symm
      · exact (lt z3).symm
      · obtain ⟨o, q, _⟩ := z4; exact (lt q).symm
      · obtain ⟨o, q, _⟩ := z5; exact (lt q).symm
    have hT2 : ju h2 s.heap.objs.size #[u, u'] := ⟨_, b2.extBut _ _ hzT a5, ⟨rfl, _, rfl⟩, rfl⟩
    refine ⟨.ref s.heap.objs.size, upd H s.heap.objs.size (.tup [x, y]), I.yielded (t' := s.toks) hf kk (Nat.le_refl _) ⟨by show 2 <= sizeLine; decide, [u, u'], .cons ru (.cons ru' .nil), hT2⟩, rfl, ⟨_, x, y, rfl, hn, fun l hl => by rw [I.fA hl hq]; exact hx, fun l hl => by rw [I.fA hl hr]; exact hy, rfl⟩, ?_, fun c hc => by rw [aE (nTf c hc)]; exact (hf c hc).1⟩
    exact ⟨b1, b2.extBut _ _ A.TIz (k1 _ _ A.TIz A.TITO A.TIi1 A.TIi2 z2), ⟨_, _, b2.extBut _ _ A.TOz a2⟩, a3.extBut b2.extBut A.i1z, a4.extBut b2.extBut A.i2z, na, nb⟩
  done := by
    intro X hP hw hK hc i pins s σ H E I hf st hg
    subst hP hw hK
    obtain ⟨xs, ys, hq, hr, hx⟩ := hg
    obtain ⟨its, rv, p, hz⟩ := I.tuple hq
    obtain ⟨jts, rw', p', hz'⟩ := I.tuple hr
    have pt : s.heap.IsTuple a its.toArray := p
    have pt' : s.heap.IsTuple b jts.toArray := p'
    have D := lE A st pt pt'
    obtain ⟨z1, z2, ⟨t1, t2, z3⟩, z4, z5, _⟩ := st
    have hl := rv.length
    have hl' := rw'.length
    refine wu (I.ok.hd hc) D z1 z2 z3 z4 z5 pt pt' ?_ fun h' eb => ⟨rfl, I.kK (t' := s.toks) hf fun b u hb q => eb b u (fun z => hb (by simp [z])) (fun z => hb (by simp [z])) (fun z => hb (by simp [z])) (fun z => hb (by simp [z])) q⟩
    rcases hx with hx | hx
    · exact .inl (Array.getElem?_eq_none (by rw [List.size_toArray]; omega))
    · exact .inr (Array.getElem?_eq_none (by rw [List.size_toArray]; omega))
  self := fun A i s Q E st q => wpAny_pyIter_zip st.1 q
noncomputable def B9 (K : PySem.W.Frag) (ta : TA) : TI := fun σ H R => ta σ H fun vs H1 => ∃ a b, vs = [.ref a, .ref b] /\ (((∃ xs, SqL K H1 a xs) /\ (∃ ys, SqL K H1 b ys) /\ R (Izl K a b) H1) \/ ((∃ xs, SqT K H1 a xs) /\ (∃ ys, SqT K H1 b ys) /\ R (Izt K a b) H1))
theorem xM {X : Cx} {elts : List Expr} {kt : Nat} {tp p pos : Pos} {l m : Expr} {ta : TA} (hg : Gl X "zip") (hm : X.mg "zip" = none) (hl : PA X [l, m] ta) (hs : starEach [l, m] X.env = (false, eval l X.env) :: starEach [m] X.env := by rfl) (hp : (backTo pos (starEach [m] X.env)).any (·.1) = false := by rfl) :
    PI X (.Tuple elts kt tp) (.Call (.Name "zip" p) [l, m] [] pos) (B9 X.K ta) := by
  intro pins s σ H R I h
  refine Call_ (jG I hg hm PyProof.Rows.boot_zip (PyProof.Rows.callWith_type1 (thn (hl pos pins s σ H _ I h) fun us s1 ⟨vs, H1, I1, r1, q1⟩ => ?_) hs hp))
  obtain ⟨a, b, e1, q⟩ := q1
  subst e1
  obtain ⟨u1, u2, rfl, rv, rw'⟩ : ∃ u1 u2, us = [u1, u2] /\ RelV (.ref a) u1 /\ RelV (.ref b) u2 := by
    cases r1 with
    | cons p q =>
      cases q with
      | cons p' q' =>
        cases q'
        exact ⟨_, _, rfl, p, p'⟩
  cases rv
  cases rw'
  have ne : ∀ n i j : Nat, i ≠ j -> n + i ≠ n + j := by intro n i j h; omega
  have ap : ZA (s1.heap.objs.size + 4) (s1.heap.objs.size + 2) (s1.heap.objs.size + 3) s1.heap.objs.size (s1.heap.objs.size + 1) := ⟨ne _ 2 4 (by decide), ne _ 3 4 (by decide), ne _ 0 4 (by decide), ne _ 1 4 (by decide), ne _ 2 3 (by decide), ne _ 2 0 (by decide), ne _ 2 1 (by decide), ne _ 3 0 (by decide), ne _ 3 1 (by decide), ne _ 0 1 (by decide)⟩
  have fp : ∀ c ∈ [s1.heap.objs.size + 4, s1.heap.objs.size + 2, s1.heap.objs.size + 3, s1.heap.objs.size, s1.heap.objs.size + 1], l7 X pins H1 c := by
    intro c hc
    have hb' : s1.heap.objs.size <= c := by
      simp only [List.mem_cons, List.not_mem_nil, or_false] at hc
      rcases hc with e | e | e | e | e <;> rw [e]
      · exact Nat.le_add_right _ _
      · exact Nat.le_add_right _ _
      · exact Nat.le_add_right _ _
      · exact Nat.le_refl _
      · exact Nat.le_add_right _ _
    exact I1.wb hb' (I1.hok.fresh hb')
  rcases q with ⟨⟨xs, hq⟩, ⟨ys, hr⟩, q⟩ | ⟨⟨xs, hq⟩, ⟨ys, hr⟩, q⟩
  · obtain ⟨its, rv, pl, hz⟩ := I1.list hq
    obtain ⟨jts, rw', pl', hz'⟩ := I1.list hr
    refine call_zip_2 pl.isList pl'.isList fun h2 y1 y2 y3 y4 y5 hsz kp => wpAny_pyIter_zip (s := { s1 with heap := h2 }) y1 ?_
    exact ⟨s1.heap.objs.size + 4, _, _, _, H1, rfl, I1.kept (t' := s1.toks) kp, tY (a := a) (b := b) ap, ⟨y1, y2, ⟨_, _, y3⟩, y4, y5⟩, fp, q⟩
  · obtain ⟨its, rv, pl, hz⟩ := I1.tuple hq
    obtain ⟨jts, rw', pl', hz'⟩ := I1.tuple hr
    have pt : s1.heap.IsTuple a its.toArray := pl
    have pt' : s1.heap.IsTuple b jts.toArray := pl'
    have la : a < s1.heap.objs.size := pl.lt
    have lb : b < s1.heap.objs.size := pl'.lt
    refine ua pt pt' fun h2 y1 y2 y3 y4 y5 kp => wpAny_pyIter_zip (s := { s1 with heap := h2 }) y1 ?_
    refine ⟨s1.heap.objs.size + 4, _, _, _, H1, rfl, I1.kept (t' := s1.toks) kp, tO (a := a) (b := b) ap, ⟨y1, y2, ⟨_, _, y3⟩, y4, y5, ?_, ?_⟩, fp, q⟩
    · exact Nat.ne_of_lt (Nat.lt_of_lt_of_le la (Nat.le_add_right _ _))
    · exact Nat.ne_of_lt (Nat.lt_of_lt_of_le lb (Nat.le_add_right _ _))
end L2
namespace L2.FE
open PySem PySem.Spec PyProof.Rows
section
variable {X : Cx} {g : GG} {ε : EE} {K : PySem.W.Frag}
noncomputable def yx : List D -> Hh -> R Src
  | [.frl ds, .frl es], h => .ok (.snap (je ds es)) h
  | [.tup ds, .tup es], h => .ok (.snap (je ds es)) h
  | _, _ => .bad
noncomputable def wR (a : MA) : MI := fun env h => (a env h).bind yx
theorem rX {α : List Addr} {H : Hp} {a b : Addr} {ds es : List D} {vs ws : List V} (hq : H a = some (.tup vs)) (rs : ar K g α H ds vs) (hq' : H b = some (.tup ws)) (rs' : ar K g α H es ws) : Reads K g (Izt K a b) (Src.snap (je ds es)).rdr α H := by
  intro α2 H2 h2 x2 hr i
  have hq2 : SqT K H2 a vs := SqT.of (x2.tup _ _ hq)
  have hq2' : SqT K H2 b ws := SqT.of (x2.tup _ _ hq')
  have rs2 := rs.ext x2
  have rs2' := rs'.ext x2
  show match some (je ds es)[i]? with | none => True | some none => _ | some (some d) => _
  rw [lj]
  cases e : ds[i]? with
  | none =>
    have : ds.length <= i := List.getElem?_eq_none_iff.mp e
    exact ⟨vs, ws, hq2, hq2', .inl (by rw [<- rs.length]; exact this)⟩
  | some d =>
    cases e' : es[i]? with
    | none =>
      have : es.length <= i := List.getElem?_eq_none_iff.mp e'
      exact ⟨vs, ws, hq2, hq2', .inr (by rw [<- rs'.length]; exact this)⟩
    | some d' =>
      obtain ⟨v, ev, rv⟩ := rs2.get e
      obtain ⟨v', ev', rv'⟩ := rs2'.get e'
      refine ⟨⟨vs, ws, v, v', hq2, hq2', ev, ev'⟩, fun x H' y => ?_⟩
      obtain ⟨p, u, u', e1, hp, e2, e2', e3⟩ := y
      subst e1 e3
      have := e2 vs hq2
      rw [ev] at this
      cases this
      have := e2' ws hq2'
      rw [ev'] at this
      cases this
      exact sV hr rv rv' hp
theorem yF {elts : List Expr} {kt : Nat} {tp p pos : Pos} {e e' : Expr} {ma : MA} (hg : Gl X "zip") (hm : X.mg "zip" = none) (he : PA X [e, e'] (tMA X.K g ε ma)) (hs : starEach [e, e'] X.env = (false, eval e X.env) :: starEach [e'] X.env := by rfl) (hp : (backTo pos (starEach [e'] X.env)).any (·.1) = false := by rfl) : PI X (.Tuple elts kt tp) (.Call (.Name "zip" p) [e, e'] [] pos) (tMI X.K g ε (wR ma)) :=
  PI.imp (xM hg hm he hs hp) fun σ H T ⟨α, env, h, s, w⟩ => tMA.use s w.bind fun d1 h1 v1 H1 α1 e1 s1 r1 w1 => by
    unfold yx at w1
    split at w1
    · cases r1 with
      | cons ra rr =>
        cases rr with
        | cons rb rr =>
          cases rr
          cases ra with
          | frl hq rs =>
            cases rb with
            | frl hq' rs' => exact ⟨_, _, rfl, .inl ⟨⟨_, hq.sq⟩, ⟨_, hq'.sq⟩, w1 _ H1 α1 e1 s1.heap (uA hq.fro rs hq'.fro rs')⟩⟩
    · cases r1 with
      | cons ra rr =>
        cases rr with
        | cons rb rr =>
          cases rr
          cases ra with
          | tup hq rs =>
            cases rb with
            | tup hq' rs' => exact ⟨_, _, rfl, .inr ⟨⟨_, SqT.of hq⟩, ⟨_, SqT.of hq'⟩, w1 _ H1 α1 e1 s1.heap (rX hq rs hq' rs')⟩⟩
    · exact w1.elim
end
end L2.FE
namespace L2.FE
open PySem
section
variable {β γ : Type} {h h1 : Hh} {env : En}
@[simp] theorem bN {b : β} {f : β -> Hh -> R γ} : (R.ok b h).bind f = f b h := Eq.trans rfl rfl
@[simp] theorem Cz {f : β -> Hh -> R γ} : (R.bad).bind f = .bad := Eq.trans rfl rfl
@[simp] theorem Cm {c : Prop} [Decidable c] {a b : R β} {f : β -> Hh -> R γ} : (if c then a else b).bind f = if c then a.bind f else b.bind f := by split <;> rfl
@[simp] theorem e_C {d : D} : cC d env h = .ok d h := Eq.trans rfl rfl
@[simp] theorem Ee {d : D} {r : En} : af 0 (some d :: r) h = .ok d h := Eq.trans rfl rfl
@[simp] theorem Dq {i : Nat} {x : Option D} {r : En} : af (i + 1) (x :: r) h = af i r h := Eq.trans rfl rfl
@[simp] theorem E2 {f : D -> D -> Hh -> R D} {a b : ME} : ao f a b env h = (a env h).bind fun x h1 => (b env h1).bind fun y h2 => f x y h2 := Eq.trans rfl rfl
@[simp] theorem Fc {f : D -> Hh -> R D} {a : ME} : cUn f a env h = (a env h).bind fun x h1 => f x h1 := Eq.trans rfl rfl
@[simp] theorem E9 : aq env h = .ok [] h := Eq.trans rfl rfl
@[simp] theorem Du {a : ME} {r : MA} : ae a r env h = (a env h).bind fun x h1 => (r env h1).bind fun xs h2 => .ok (x :: xs) h2 := Eq.trans rfl rfl
@[simp] theorem DH {f : List D -> Hh -> R D} {a : MA} : aj f a env h = (a env h).bind f := Eq.trans rfl rfl
@[simp] theorem Dj {f : D -> List D -> Hh -> R D} {o : ME} {a : MA} : lg f o a env h = (o env h).bind fun x h1 => if isL x h1 = true then (a env h1).bind fun xs h2 => f x xs h2 else .bad := Eq.trans rfl rfl
@[simp] theorem Ei {f : D -> Hh -> R Bool} {a : ME} : aO f a env h = (a env h).bind f := Eq.trans rfl rfl
@[simp] theorem DG {a : MT} : dX a env h = (a env h).bind fun b h1 => .ok (!b) h1 := Eq.trans rfl rfl
@[simp] theorem Dt {a b : MT} : ny a b env h = (a env h).bind fun x h1 => if x = true then b env h1 else .ok false h1 := Eq.trans rfl rfl
@[simp] theorem E6 {a b : MT} : oM a b env h = (a env h).bind fun x h1 => if x = true then .ok true h1 else b env h1 := Eq.trans rfl rfl
@[simp] theorem Fe {c : MT} {a b : ME} : cIf c a b env h = (c env h).bind fun x h1 => if x = true then a env h1 else b env h1 := Eq.trans rfl rfl
@[simp] theorem E1 {b : Bool} : asB (.bl b) h = .ok b h := Eq.trans rfl rfl
@[simp] theorem DA {a b : ME} : tm a b env h = (a env h).bind fun x h1 => (asB x h1).bind fun k h2 => if k = true then b env h2 else .ok (.bl false) h2 := Eq.trans rfl rfl
@[simp] theorem DN {a : ME} : vD a env h = (a env h).bind fun x h1 => (asB x h1).bind fun k h2 => .ok (.bl (!k)) h2 := Eq.trans rfl rfl
@[simp] theorem C9 {f f' : D -> D -> Hh -> R D} {a b c : ME} : gO f f' a b c env h = (a env h).bind fun x h1 => (b env h1).bind fun y h2 => (f x y h2).bind fun z h3 => (asB z h3).bind fun k h4 => if k = true then (c env h4).bind fun w h5 => f' y w h5 else .ok (.bl false) h4 := Eq.trans rfl rfl
noncomputable def zM : D -> Hh -> R (Option Int) := fun d h1 => match d with
  | .int i => .ok (some i) h1
  | _ => .bad
@[simp] theorem Dd {i : Int} : zM (.int i) h = .ok (some i) h := Eq.trans rfl rfl
@[simp] theorem Ek {a : ME} : nD a env h = (a env h).bind zM := Eq.trans rfl rfl
@[simp] theorem C8 {nl : NL} {a : ME} {l u : MO} : pj nl a l u env h = (a env h).bind fun x h1 => (l env h1).bind fun lo h2 => (u env h2).bind fun hi h3 => yN nl x lo hi h3 := Eq.trans rfl rfl
@[simp] theorem Ep : bI env h = .ok (.nx env) h := Eq.trans rfl rfl
noncomputable def AI (b : MS) : Fl -> Hh -> R Fl := fun fl h1 => match fl with
  | .nx e => b e h1
  | fl => .ok fl h1
@[simp] theorem Fd {b : MS} {e : En} : AI b (.nx e) h = b e h := Eq.trans rfl rfl
@[simp] theorem Ff {b : MS} {d : D} : AI b (.rt d) h = .ok (.rt d) h := Eq.trans rfl rfl
@[simp] theorem E3 {a b : MS} : aG a b env h = (a env h).bind (AI b) := by
  unfold aG
  first | rfl | (congr 1; funext fl h1; cases fl <;> rfl)
@[simp] theorem Dp {a : ME} : dI a env h = (a env h).bind fun _ h1 => .ok (.nx env) h1 := Eq.trans rfl rfl
@[simp] theorem EJ {a : ME} : bw a env h = (a env h).bind fun d h1 => .ok (.rt d) h1 := Eq.trans rfl rfl
@[simp] theorem E8 {c : MT} {a b : MS} : cQ c a b env h = (c env h).bind fun x h1 => if x = true then a env h1 else b env h1 := Eq.trans rfl rfl
@[simp] theorem EX {i : Nat} {a : ME} : bL i a env h = (a env h).bind fun d h1 => .ok (.nx (env.set i (some d))) h1 := Eq.trans rfl rfl
noncomputable def CH (i j : Nat) (env : En) : List D -> Hh -> R Fl := fun ds h1 => match ds with
  | [x, y] => .ok (.nx ((env.set i (some x)).set j (some y))) h1
  | _ => .bad
@[simp] theorem DW {i j : Nat} {x y : D} : CH i j env [x, y] h = .ok (.nx ((env.set i (some x)).set j (some y))) h := Eq.trans rfl rfl
@[simp] theorem zy {i j : Nat} {a : MA} : sf i j a env h = (a env h).bind (CH i j env) := by
  rfl
@[simp] theorem rQ {i : Nat} {d : D} : gN i d env h = .ok (env.set i (some d)) h := Eq.trans rfl rfl
@[simp] theorem EH {i j : Nat} {x y : D} : gT2 i j (.tup [x, y]) env h = .ok ((env.set i (some x)).set j (some y)) h := Eq.trans rfl rfl
@[simp] theorem EG {i j : Nat} {a : ME} : vG i j a env h = (a env h).bind fun d h1 => (gT2 i j d env h1).bind fun e h2 => .ok (.nx e) h2 := Eq.trans rfl rfl
@[simp] theorem De {f : D -> D -> D -> Hh -> R Unit} {o i v : ME} : e_ f o i v env h = (v env h).bind fun x h1 => (o env h1).bind fun y h2 => (i env h2).bind fun z h3 => (f y z x h3).bind fun _ h4 => .ok (.nx env) h4 := Eq.trans rfl rfl
@[simp] theorem Dg {o i v : ME} : l5 o i v env h = (o env h).bind fun x h1 => (i env h1).bind fun y h2 => (uv x y h2).bind fun z h3 => (v env h3).bind fun u h4 => (qK z u h4).bind fun t h5 => (dF x y t h5).bind fun _ h6 => .ok (.nx env) h6 := Eq.trans rfl rfl
noncomputable def Bl : Fl -> Hh -> R D := fun fl h1 => match fl with
  | .rt d => .ok d h1
  | .nx _ => .ok .non h1
  | _ => .bad
@[simp] theorem E_ {d : D} : Bl (.rt d) h = .ok d h := Eq.trans rfl rfl
@[simp] theorem Fb {e : En} : Bl (.nx e) h = .ok .non h := Eq.trans rfl rfl
theorem bA {n : Nat} {m : MS} {ds : List D} : cm n m ds h = (m (ds.map some ++ List.replicate (n - ds.length) none) h).bind Bl := by
  unfold cm
  first | rfl | (congr 1; funext fl h1; cases fl <;> rfl)
section
variable {nl : NL}
@[simp] theorem Dv {i j : Int} : bb nl (.int i) (.int j) h = .ok (.int (i + j)) h := Eq.trans rfl rfl
@[simp] theorem Dk {i j : Int} : qK (.int i) (.int j) h = .ok (.int (i + j)) h := Eq.trans rfl rfl
@[simp] theorem DS {i j : Int} : cS (.int i) (.int j) h = .ok (.int (i - j)) h := Eq.trans rfl rfl
@[simp] theorem EB {i j : Int} : dLt (.int i) (.int j) h = .ok (.bl (decide (i < j))) h := by unfold dLt; rw [k_]; rfl
@[simp] theorem ES {i j : Int} : dLe (.int i) (.int j) h = .ok (.bl (decide (i <= j))) h := by unfold dLe; rw [oH]; rfl
@[simp] theorem E5 {i j : Int} : dGt (.int i) (.int j) h = .ok (.bl (decide (j < i))) h := by unfold dGt; rw [k_]; rfl
@[simp] theorem ER {i j : Int} : dGe (.int i) (.int j) h = .ok (.bl (decide (j <= i))) h := by unfold dGe; rw [oH]; rfl
@[simp] theorem DJ {i j : Int} : dM nl (.int i) (.int j) h = if sml i = true /\ sml j = true then .ok (.int (i * j)) h else .bad := Eq.trans rfl rfl
@[simp] theorem Eg {i j : Int} : r_ (.int i) (.int j) h = if 0 < j /\ sml j = true then .ok (.int (i / j)) h else .bad := Eq.trans rfl rfl
@[simp] theorem D6 {i j : Int} : qf (.int i) (.int j) h = if 0 < j then .ok (.int (i % j)) h else .bad := Eq.trans rfl rfl
@[simp] theorem DQ {i j : Int} : zp (.int i) (.int j) h = if 0 <= j /\ j.natAbs <= 1000 /\ sml i = true then .ok (.int (i ^ j.toNat)) h else .bad := Eq.trans rfl rfl
@[simp] theorem Ez {i j : Int} : vS [.int i, .int j] h = .ok (.int (max i j)) h := by
  have : (if j > i then j else i) = max i j := by split <;> omega
  rw [<- this]; rfl
@[simp] theorem D2 {b : Bool} : v7 [.bl b] h = .ok (.int (if b then 1 else 0)) h := Eq.trans rfl rfl
@[simp] theorem EW {ds : List D} : kz ds h = if ds.length <= 1000000 then .ok (.tup ds) h else .bad := Eq.trans rfl rfl
@[simp] theorem EC {ds : List D} : eO nl ds h = if ds.length <= 1000000 then nl ds h else .bad := Eq.trans rfl rfl
@[simp] theorem D7 {ds : List D} : lJ ds h = .ok (.ref h.length) (h ++ [.lst ds]) := Eq.trans rfl rfl
@[simp] theorem Ea {ds : List D} : aD ds h = .ok (.frl ds) h := Eq.trans rfl rfl
@[simp] theorem Em {ds : List D} : bZ [.tup ds] h = .ok (.int ds.length) h := Eq.trans rfl rfl
@[simp] theorem D0 {ds : List D} : bZ [.frl ds] h = .ok (.int ds.length) h := Eq.trans rfl rfl
@[simp] theorem DU {ds : List D} : bZ [.scr ds] h = .ok (.int ds.length) h := Eq.trans rfl rfl
noncomputable def ixK (ds : List D) (i : Int) (h : Hh) : R D := match atI ds i with
  | some d => .ok d h
  | none => .bad
@[simp] theorem BQ {ds : List D} {i : Int} : dIx (.tup ds) (.int i) h = ixK ds i h := Eq.trans rfl rfl
@[simp] theorem EK {ds : List D} {i : Int} : dIx (.frl ds) (.int i) h = ixK ds i h := Eq.trans rfl rfl
@[simp] theorem EO {ds : List D} {i : Int} : dIx (.scr ds) (.int i) h = ixK ds i h := Eq.trans rfl rfl
theorem nS {n : Nat} {ds : List D} {i : Int} (e : ax h n = some ds) : dIx (.ref n) (.int i) h = ixK ds i h := by
  have z : gk (.ref n) h = some ds := e
  delta dIx; rw [z]; rfl
theorem Bh {ds : List D} {i : Int} {d : D} (e : atI ds i = some d) : ixK ds i h = .ok d h := by simp only [ixK, e]
theorem v9 {β : Type} {xs : List β} {j : Nat} {v : β} {i : Int} (h : xs[j]? = some v) (e : i = (j : Int)) : atI xs i = some v := by rw [e]; exact yQ h
theorem f_ {ds : List D} {i : Int} {j : Nat} {d : D} (e : i = (j : Int)) (e2 : ds[j]? = some d) : ixK ds i h = .ok d h := Bh (v9 e2 e)
noncomputable def gI (ns : List Int) (i : Nat) : Int := ns.getD i 0
theorem gC {ns : List Int} {j : Nat} (hj : j < ns.length) : gI ns j = ns[j] := by
  unfold gI; rw [List.getD_eq_getElem?_getD, List.getElem?_eq_getElem hj]; rfl
theorem jN {ns : List Int} {j : Nat} (hj : j < ns.length) : gI ns j ∈ ns := by rw [gC hj]; exact List.getElem_mem hj
theorem gg {ns : List Int} {i : Int} {j : Nat} (e : i = (j : Int)) (hj : j < ns.length) : ixK (ns.map D.int) i h = .ok (.int (gI ns j)) h := by
  refine f_ e ?_
  rw [List.getElem?_map, List.getElem?_eq_getElem hj, gC hj]; rfl
@[simp] theorem EL {d : D} {ds : List D} : ixK (d :: ds) 0 h = .ok d h := f_ (j := 0) rfl rfl
@[simp] theorem E4 {d d1 : D} {ds : List D} : ixK (d :: d1 :: ds) 1 h = .ok d1 h := f_ (j := 1) rfl rfl
@[simp] theorem El {ds : List D} {lo hi : Option Int} : yN nl (.scr ds) lo hi h = nl (cutD ds lo hi) h := Eq.trans rfl rfl
@[simp] theorem Eu {a b : List D} : bb nl (.tup a) (.tup b) h = if a.length + b.length <= 1000000 then .ok (.tup (a ++ b)) h else .bad := Eq.trans rfl rfl
@[simp] theorem DX {a b : List D} : bb nl (.frl a) (.frl b) h = if a.length + b.length <= 1000000 then nl (a ++ b) h else .bad := Eq.trans rfl rfl
@[simp] theorem DV {a : List D} {k : Int} : dM nl (.frl a) (.int k) h = if k.natAbs <= 1000000 /\ a.length * k.toNat <= 1000000 then nl (List.replicate k.toNat a).flatten h else .bad := Eq.trans rfl rfl
@[simp] theorem Ey {ds : List D} : nv nl (.frl ds) h = nl ds.reverse h := Eq.trans rfl rfl
@[simp] theorem Ec {ds : List D} : eL [.frl ds] h = .ok (.tup ds) h := Eq.trans rfl rfl
@[simp] theorem DL {ns : List Int} : t8 [.frl (ns.map D.int)] h = .ok (.int ns.sum) h := by simp only [t8, gk, iQ]
@[simp] theorem DI {b : Bool} : jI (.bl b) h = .ok b h := Eq.trans rfl rfl
@[simp] theorem ET {i j : Int} : dEq (.int i) (.int j) h = .ok (.bl (i == j)) h := Eq.trans rfl rfl
@[simp] theorem EN {i j : Int} : dNe (.int i) (.int j) h = .ok (.bl (!(i == j))) h := Eq.trans rfl rfl
@[simp] theorem Ej {i : Int} : mY "int" (.int i) h = .ok (.bl true) h := Eq.trans rfl rfl
@[simp] theorem DK {i : Int} : mY "bool" (.int i) h = .ok (.bl false) h := Eq.trans rfl rfl
@[simp] theorem Ed {ds : List D} : mY "tuple" (.tup ds) h = .ok (.bl true) h := Eq.trans rfl rfl
@[simp] theorem hW {ds : List D} {t : Hh} : ax (h ++ .lst ds :: t) h.length = some ds := by
  unfold ax; rw [List.getElem?_append_right (Nat.le_refl _)]; simp
@[simp] theorem kG {o o' : O} {t : Hh} : (h ++ o :: t).set h.length o' = h ++ o' :: t := by
  rw [List.set_append_right _ _ (Nat.le_refl _)]; simp
@[simp] theorem k9 {o : O} {ds : List D} {t : Hh} : ax (h ++ o :: .lst ds :: t) (h.length + 1) = some ds := by
  unfold ax; rw [List.getElem?_append_right (by omega)]; simp
@[simp] theorem xk {o : O} {p p' : O} {t : Hh} : (h ++ o :: p :: t).set (h.length + 1) p' = h ++ o :: p' :: t := by
  rw [List.set_append_right _ _ (by omega)]; simp
theorem AX {n : Nat} {ds : List D} (e : ax h n = some ds) : isL (.ref n) h = true := by simp [isL, e]
theorem AD {n : Nat} {ds : List D} (e : ax h n = some ds) : bZ [.ref n] h = .ok (.int ds.length) h := by
  unfold ax at e
  split at e
  · rename_i ds' q; cases e; delta bZ; dsimp only; rw [q]
  · cases e
theorem A6 {n : Nat} {ds : List D} (e : ax h n = some ds) : eL [.ref n] h = .ok (.tup ds) h := by delta eL; dsimp only; rw [e]
theorem jb {n : Nat} {ds : List D} {i : Int} {j : Nat} {v : D} (e : ax h n = some ds) (e2 : ixN ds.length i = some j) : dF (.ref n) (.int i) v h = .ok () (h.set n (.lst (ds.set j v))) := by delta dF; dsimp only; rw [e]; dsimp only; rw [e2]
theorem uV {n : Nat} {xs ys : List D} {d : D} (e : ax h n = some xs) (e2 : jo d h = some ys) : fJ (.ref n) [d] h = if xs.length + ys.length <= 1000000 then .ok .non (h.set n (.lst (xs ++ ys))) else .bad := by delta fJ; dsimp only; rw [e, e2]
@[simp] theorem Df {k : List Int} {t : Hh} : bZ [.ref h.length] (h ++ .set k :: t) = .ok (.int k.length) (h ++ .set k :: t) := by
  have : (h ++ O.set k :: t)[h.length]? = some (.set k) := by rw [List.getElem?_append_right (Nat.le_refl _)]; simp
  delta bZ; dsimp only; rw [this]
@[simp] theorem D8 {ns : List Int} : t9 [.tup (ns.map D.int)] h = if ns.length <= 4000 then .ok (.ref h.length) (h ++ [.set (unl ns)]) else .bad := by delta t9; dsimp only; rw [iQ]
@[simp] theorem DB {ds : List D} {t : Hh} : isL (.ref h.length) (h ++ .lst ds :: t) = true := AX hW
@[simp] theorem DR {ds : List D} {t : Hh} : eL [.ref h.length] (h ++ .lst ds :: t) = .ok (.tup ds) (h ++ .lst ds :: t) := A6 hW
theorem s_ {n j : Nat} {i : Int} (e : i = (j : Int)) (hj : j < n) : ixN n i = some j := by
  subst e
  unfold ixN
  rw [if_pos (by omega), if_pos (by omega)]; simp
end
@[simp] theorem D9 {a : MA} : jv gx a env h = (a env h).bind gx := Eq.trans rfl rfl
@[simp] theorem D1 {j : Int} : gx [.int j] h = if j.natAbs <= 1000000 then .ok (.snap (dJ 0 j.toNat)) h else .bad := Eq.trans rfl rfl
@[simp] theorem ED {a : ME} : cF a env h = (a env h).bind pX := Eq.trans rfl rfl
@[simp] theorem DZ {a : ME} : l9 a env h = (a env h).bind qt := Eq.trans rfl rfl
@[simp] theorem EI {ds : List D} : pX (.tup ds) h = .ok (.snap ds) h := Eq.trans rfl rfl
@[simp] theorem E7 {ds : List D} : pX (.frl ds) h = .ok (.snap ds) h := Eq.trans rfl rfl
@[simp] theorem DY {a : MA} : wR a env h = (a env h).bind yx := Eq.trans rfl rfl
@[simp] theorem Dh {ds es : List D} : yx [.tup ds, .tup es] h = .ok (.snap (je ds es)) h := Eq.trans rfl rfl
@[simp] theorem C_ {ds : List D} : qt (.tup ds) h = .ok (.snap (dn ds)) h := Eq.trans rfl rfl
@[simp] theorem C7 {ds : List D} : qt (.frl ds) h = .ok (.snap (dn ds)) h := Eq.trans rfl rfl
theorem zP {n : Nat} {ds : List D} (e : ax h n = some ds) : pX (.ref n) h = .ok (.live n) h := by simp only [pX, e]
noncomputable def Au (tg : D -> En -> Hh -> R En) (body : MS) (env : En) : Src -> Hh -> R Fl := fun sr h1 => match sr with
  | .snap ds => cT tg body ds env h1
  | .live n => gp (Src.live n).rdr tg body ((ax h1 n).getD []).length 0 env h1
  | .liveE n => gp (Src.liveE n).rdr tg body ((ax h1 n).getD []).length 0 env h1
@[simp] theorem Ds {tg : D -> En -> Hh -> R En} {body : MS} {ds : List D} : Au tg body env (.snap ds) h = cT tg body ds env h := Eq.trans rfl rfl
@[simp] theorem zA {mi : MI} {tg : D -> En -> Hh -> R En} {body : MS} : cR mi tg body env h = (mi env h).bind (Au tg body env) := by
  unfold cR
  congr 1
noncomputable def BG (nl : NL) (tt : MT) (te : ME) (ee : D -> En) : Src -> Hh -> R D := fun sr h1 => if sr.fuel h1 <= 1000000 then
  (match sr with
    | .snap ds => ck tt te ee ds h1
    | .live n => eS (Src.live n).rdr tt te ee ((ax h1 n).getD []).length 0 [] h1
    | .liveE n => eS (Src.liveE n).rdr tt te ee ((ax h1 n).getD []).length 0 [] h1).bind nl else .bad
@[simp] theorem D5 {nl : NL} {mi : MI} {ix : List Nat} {tt : MT} {te : ME} : dk nl mi ix tt te env h = (mi env h).bind (BG nl tt te (gG ix env)) := Eq.trans rfl rfl
@[simp] theorem Dc {nl : NL} {tt : MT} {te : ME} {ee : D -> En} {ds : List D} : BG nl tt te ee (.snap ds) h = if ds.length <= 1000000 then (ck tt te ee ds h).bind nl else .bad := Eq.trans rfl rfl
@[simp] theorem BD {lo : Int} {n : Nat} : (dJ lo n).length = n := by simp [dJ]
@[simp] theorem BE {ds : List D} : (dn ds).length = ds.length := by simp [dn]
@[simp] theorem EZ {ix : List Nat} : gG ix env = fun d => some d :: ix.map fun i => (env[i]?).join := Eq.trans rfl rfl
@[simp] theorem EV : tt1 env h = .ok true h := Eq.trans rfl rfl
@[simp] theorem EF {m : En -> Hh -> R β} {x y : D} {r : En} : unp m (some (.tup [x, y]) :: r) h = m (some x :: some y :: r) h := Eq.trans rfl rfl
@[simp] theorem C6 {f : Nat} {c : MT} {b : MS} : rq f c b env h = ft c b f env h := Eq.trans rfl rfl
noncomputable def Aw (tg : D -> En -> Hh -> R En) (body : MS) (ds : List D) : Fl -> Hh -> R Fl := fun fl h2 => match fl with
  | .nx e => cT tg body ds e h2
  | .ct e => cT tg body ds e h2
  | .bk e => .ok (.nx e) h2
  | .rt d => .ok (.rt d) h2
theorem mz {tg : D -> En -> Hh -> R En} {body : MS} {d : D} {ds : List D} : cT tg body (d :: ds) env h = (tg d env h).bind fun e1 h1 => (body e1 h1).bind (Aw tg body ds) := rfl
@[simp] theorem vR {tg : D -> En -> Hh -> R En} {body : MS} {ds : List D} {e : En} : Aw tg body ds (.nx e) h = cT tg body ds e h := Eq.trans rfl rfl
@[simp] theorem EY {tg : D -> En -> Hh -> R En} {body : MS} {ds : List D} {d : D} : Aw tg body ds (.rt d) h = .ok (.rt d) h := Eq.trans rfl rfl
theorem uI (ns : List Int) : dn (ns.map D.int) = (List.range ns.length).map fun (i : Nat) => D.tup [.int i, .int (gI ns i)] := by
  unfold dn
  rw [List.length_map]
  apply List.map_congr_left
  intro i hi
  have hi : i < ns.length := List.mem_range.mp hi
  rw [List.getD_eq_getElem?_getD, List.getElem?_map, List.getElem?_eq_getElem hi, gC hi]; rfl
theorem ji {σ X : Type} {tg : D -> En -> Hh -> R En} {body : MS} (E : σ -> En) (G : σ -> Hh) (enc : X -> D) (f : σ -> X -> σ) (I : List X -> σ -> Prop) (st : ∀ s x r, I (x :: r) s -> I r (f s x) /\ ((tg (enc x) (E s) (G s)).bind body = .ok (.nx (E (f s x))) (G (f s x)) \/ (tg (enc x) (E s) (G s)).bind body = .ok (.ct (E (f s x))) (G (f s x)))) :
    ∀ (xs : List X) (s : σ), I xs s -> cT tg body (xs.map enc) (E s) (G s) = .ok (.nx (E (xs.foldl f s))) (G (xs.foldl f s)) /\ I [] (xs.foldl f s)
  | [], s, i => ⟨rfl, i⟩
  | x :: xs, s, i => by
    obtain ⟨i1, e⟩ := st s x xs i
    obtain ⟨e2, i2⟩ := ji E G enc f I st xs (f s x) i1
    refine ⟨?_, i2⟩
    rw [List.map_cons, cT]
    rw [<- bg]
    rcases e with e | e <;> rw [e] <;> exact e2
theorem comp_map {X : Type} {tt : MT} {te : ME} {ee : D -> En} (enc : X -> D) (p : X -> Bool) (g : X -> D) : ∀ (xs : List X), (∀ x ∈ xs, tt (ee (enc x)) h = .ok (p x) h /\ (p x = true -> te (ee (enc x)) h = .ok (g x) h)) →
    ck tt te ee (xs.map enc) h = .ok ((xs.filter p).map g) h
  | [], _ => rfl
  | x :: xs, st => by
    obtain ⟨e1, e2⟩ := st x List.mem_cons_self
    have ih := comp_map enc p g xs fun y hy => st y (List.mem_cons_of_mem _ hy)
    rw [List.map_cons, ck, e1, bN]
    cases hp : p x with
    | false => rw [if_neg Bool.false_ne_true, ih, List.filter_cons_of_neg (by simp [hp])]
    | true => rw [if_pos rfl, e2 hp, bN, ih, bN, List.filter_cons_of_pos hp, List.map_cons]
theorem vt {X : Type} {te : ME} {ee : D -> En} (enc : X -> D) (g : X -> D) (xs : List X) (st : ∀ x ∈ xs, te (ee (enc x)) h = .ok (g x) h) : ck tt1 te ee (xs.map enc) h = .ok (xs.map g) h := by
  have := comp_map (tt := tt1) (ee := ee) (h := h) enc (fun _ => true) g xs fun x hx => ⟨rfl, fun _ => st x hx⟩
  rw [List.filter_eq_self.mpr fun _ _ => rfl] at this
  exact this
theorem iG {X : Type} {te : ME} {ee : D -> En} (enc : X -> D) (g : X -> D) (xs : List X) (tt : MT) (ht : ∀ x ∈ xs, tt (ee (enc x)) h = .ok true h) (st : ∀ x ∈ xs, te (ee (enc x)) h = .ok (g x) h) : ck tt te ee (xs.map enc) h = .ok (xs.map g) h := by
  have := comp_map (tt := tt) (ee := ee) (h := h) enc (fun _ => true) g xs fun x hx => ⟨ht x hx, fun _ => st x hx⟩
  rw [List.filter_eq_self.mpr fun _ _ => rfl] at this
  exact this
theorem j0 {ns : List Int} {te : ME} {ee : D -> En} (g : Nat -> D) (ht : ∀ i, i < ns.length -> (unp tt1) (ee (.tup [.int i, .int (gI ns i)])) h = .ok true h) (st : ∀ i, i < ns.length -> te (ee (.tup [.int i, .int (gI ns i)])) h = .ok (g i) h) : ck (unp tt1) te ee (dn (ns.map D.int)) h = .ok ((List.range ns.length).map g) h := by
  rw [uI]
  exact iG (fun (i : Nat) => D.tup [.int i, .int (gI ns i)]) g _ _ (fun i hi => ht i (List.mem_range.mp hi)) (fun i hi => st i (List.mem_range.mp hi))
theorem fD (n : Nat) : dJ 0 n = (List.range n).map fun (i : Nat) => D.int i := by
  unfold dJ
  apply List.map_congr_left
  intro i _
  rw [Int.zero_add]
theorem wU {n : Nat} {tt : MT} {te : ME} {ee : D -> En} (p : Nat -> Bool) (g : Nat -> D) (st : ∀ i, i < n -> tt (ee (.int (i : Nat))) h = .ok (p i) h /\ (p i = true -> te (ee (.int (i : Nat))) h = .ok (g i) h)) :
    ck tt te ee (dJ 0 n) h = .ok (((List.range n).filter p).map g) h := by
  rw [fD, comp_map (fun (i : Nat) => D.int i) p g (List.range n) fun i hi => st i (List.mem_range.mp hi)]
theorem nP {n : Nat} {te : ME} {ee : D -> En} (g : Nat -> D) (st : ∀ i, i < n -> te (ee (.int (i : Nat))) h = .ok (g i) h) :
    ck tt1 te ee (dJ 0 n) h = .ok ((List.range n).map g) h := by
  rw [fD, vt (fun (i : Nat) => D.int i) g (List.range n) fun i hi => st i (List.mem_range.mp hi)]
theorem zf {σ : Type} {tg : D -> En -> Hh -> R En} {body : MS} (enc : Nat -> D) (n : Nat) (E : σ -> En) (G : σ -> Hh) (f : σ -> Nat -> σ) (I : Nat -> σ -> Prop) (s : σ) (i0 : I 0 s)
    (st : ∀ i s, i < n -> I i s -> I (i + 1) (f s i) /\ ((tg (enc i) (E s) (G s)).bind body = .ok (.nx (E (f s i))) (G (f s i)) \/ (tg (enc i) (E s) (G s)).bind body = .ok (.ct (E (f s i))) (G (f s i)))) :
    cT tg body ((List.range n).map enc) (E s) (G s) = .ok (.nx (E ((List.range n).foldl f s))) (G ((List.range n).foldl f s)) /\ I n ((List.range n).foldl f s) := by
  have key : ∀ (k : Nat) (xs : List Nat) (s : σ), (∀ j x, xs[j]? = some x -> x = k + j /\ x < n) -> I k s -> cT tg body (xs.map enc) (E s) (G s) = .ok (.nx (E (xs.foldl f s))) (G (xs.foldl f s)) /\ I (k + xs.length) (xs.foldl f s) := by
    intro k xs
    induction xs generalizing k with
    | nil => intro s _ i; exact ⟨rfl, i⟩
    | cons x xs ih =>
      intro s hx i
      obtain ⟨h1, h2⟩ := hx 0 x rfl
      have h1 : x = k := by omega
      subst h1
      obtain ⟨i1, e⟩ := st x s h2 i
      obtain ⟨e2, i2⟩ := ih (x + 1) (f s x) (fun j y hj => by have := hx (j + 1) y hj; omega) i1
      refine ⟨?_, by rw [List.length_cons, List.foldl_cons]; rw [show x + (xs.length + 1) = x + 1 + xs.length by omega]; exact i2⟩
      rw [List.map_cons, cT, <- bg]
      rcases e with e | e <;> rw [e] <;> exact e2
  have hr : ∀ j x, (List.range n)[j]? = some x -> x = 0 + j /\ x < n := fun j x hj => by
    have hl : j < n := by
      by_cases hl : j < n
      · exact hl
      · rw [List.getElem?_eq_none (by simpa using hl)] at hj; cases hj
    rw [List.getElem?_range hl] at hj
    cases hj
    omega
  have := key 0 (List.range n) s hr i0
  rw [List.length_range, Nat.zero_add] at this
  exact this
theorem sL {σ : Type} {tg : D -> En -> Hh -> R En} {body : MS} (n : Nat) (E : σ -> En) (G : σ -> Hh) (f : σ -> Nat -> σ) (I : Nat -> σ -> Prop) (s : σ) (i0 : I 0 s)
    (st : ∀ i s, i < n -> I i s -> I (i + 1) (f s i) /\ ((tg (.int (i : Nat)) (E s) (G s)).bind body = .ok (.nx (E (f s i))) (G (f s i)) \/ (tg (.int (i : Nat)) (E s) (G s)).bind body = .ok (.ct (E (f s i))) (G (f s i)))) :
    cT tg body (dJ 0 n) (E s) (G s) = .ok (.nx (E ((List.range n).foldl f s))) (G ((List.range n).foldl f s)) /\ I n ((List.range n).foldl f s) := by
  rw [fD]
  exact zf (fun (i : Nat) => D.int i) n E G f I s i0 st
theorem rl {c : MT} {b : MS} (n : Nat) (E : Nat -> En) (G : Nat -> Hh) (hc : ∀ i, i < n -> c (E i) (G i) = .ok true (G i)) (hb : ∀ i, i < n -> b (E i) (G i) = .ok (.nx (E (i + 1))) (G (i + 1))) (he : c (E n) (G n) = .ok false (G n)) :
    ∀ (f : Nat), n < f -> ft c b f (E 0) (G 0) = .ok (.nx (E n)) (G n) := by
  have key : ∀ (k i f : Nat), i + k = n -> k < f -> ft c b f (E i) (G i) = .ok (.nx (E n)) (G n) := by
    intro k
    induction k with
    | zero =>
      intro i f hi hf
      obtain ⟨f, rfl⟩ : ∃ g, f = g + 1 := ⟨f - 1, by omega⟩
      have : i = n := by omega
      subst this
      rw [ft, he]; rfl
    | succ k ih =>
      intro i f hi hf
      obtain ⟨f, rfl⟩ : ∃ g, f = g + 1 := ⟨f - 1, by omega⟩
      rw [ft, hc i (by omega), bN, if_pos rfl, hb i (by omega), bN]
      exact ih (i + 1) f (by omega) (by omega)
  exact fun f hf => key n 0 f (by omega) hf
noncomputable def Wf (h : Hh) : Prop := h.all (qy h.length) = true
mutual
theorem tP {j k : Nat} (h : j <= k) : ∀ (d : D), iE j d = true -> iE k d = true
  | .non, _ => rfl | .bl _, _ => rfl | .int _, _ => rfl | .str _, _ => rfl | .fn _, _ => rfl | .edic, _ => rfl | .exc _ _, _ => rfl
  | .ref n, e => by simp only [iE, decide_eq_true_eq] at e ⊢; omega
  | .tup ds, e => by simp only [iE] at e ⊢; exact cB h ds e
  | .frl ds, e => by simp only [iE] at e ⊢; exact cB h ds e
  | .scr ds, e => by simp only [iE] at e ⊢; exact cB h ds e
theorem cB {j k : Nat} (h : j <= k) : ∀ (ds : List D), bT j ds = true -> bT k ds = true
  | [], _ => rfl
  | d :: ds, e => by
    simp only [bT, Bool.and_eq_true] at e ⊢
    exact ⟨tP h d e.1, cB h ds e.2⟩
end
theorem t6 {j k : Nat} (h : j <= k) (o : O) (e : qy j o = true) : qy k o = true := by
  cases o with
  | lst ds => exact cB h ds e
  | set n => rfl
  | dic kvs => exact cB h _ e
  | dit kvs => exact cB h _ e
theorem nj {k : Nat} : ∀ {ds : List D}, (∀ d ∈ ds, iE k d = true) -> bT k ds = true
  | [], _ => rfl
  | d :: ds, h => by simp only [bT, Bool.and_eq_true]; exact ⟨h d List.mem_cons_self, nj fun e he => h e (List.mem_cons_of_mem _ he)⟩
@[simp] theorem hX {X : Type} {k : Nat} {f : X -> D} {xs : List X} (h : ∀ x, iE k (f x) = true) : bT k (xs.map f) = true := nj fun d hd => by
  obtain ⟨x, _, rfl⟩ := List.mem_map.mp hd; exact h x
@[simp] theorem Br {k : Nat} {ns : List Int} : bT k (ns.map D.int) = true := hX fun _ => rfl
theorem Wf.nil : Wf [] := rfl
theorem Wf.app {h : Hh} {o : O} (w : Wf h) (l : qy (h.length + 1) o = true) : Wf (h ++ [o]) := by
  unfold Wf at w ⊢
  rw [List.all_append, List.length_append, List.length_singleton]
  simp only [List.all_cons, List.all_nil, Bool.and_true, Bool.and_eq_true]
  refine ⟨?_, l⟩
  rw [List.all_eq_true] at w ⊢
  exact fun x hx => t6 (Nat.le_succ _) x (w x hx)
noncomputable def deep : Nat -> D -> Bool
  | 0, _ => false
  | f + 1, d => match d with
    | .ref _ => false
    | .scr _ => false
    | .tup ds => ds.all (deep f)
    | .frl ds => ds.all (deep f)
    | _ => true
theorem ow {f : D -> Option D} : ∀ {ds : List D}, (∀ d ∈ ds, f d = some d) -> jV f ds = some ds
  | [], _ => rfl
  | d :: ds, h => by simp only [jV, h d List.mem_cons_self, ow fun e he => h e (List.mem_cons_of_mem _ he)]
theorem jD {k : Nat} {h : Hh} : ∀ (f : Nat) (d : D), deep f d = true -> fX k h f d = some d
  | 0, _, e => by cases e
  | f + 1, d, e => by
    unfold deep at e
    unfold fX
    cases d with
    | ref n => cases e
    | scr n => cases e
    | tup ds => simp only [List.all_eq_true] at e; show Option.map D.tup (jV (fX k h f) ds) = _; rw [ow (f := fX k h f) fun d hd => jD f d (e d hd)]; rfl
    | frl ds => simp only [List.all_eq_true] at e; show Option.map D.frl (jV (fX k h f) ds) = _; rw [ow (f := fX k h f) fun d hd => jD f d (e d hd)]; rfl
    | _ => rfl
theorem iM {d : D} {t : Hh} (w : Wf h) (e : deep 8 d = true) : il h d (h ++ t) = .ok d h := by
  unfold il
  rw [List.take_left' rfl, if_pos (show h.all (qy h.length) = true from w), jD 8 d e]
@[simp] theorem BI {f : Nat} {i : Int} : deep (f + 1) (.int i) = true := rfl
@[simp] theorem C5 {f : Nat} {i : Bool} : deep (f + 1) (.bl i) = true := rfl
@[simp] theorem BP {f : Nat} {i : Str} : deep (f + 1) (.str i) = true := rfl
@[simp] theorem CQ {f : Nat} : deep (f + 1) .non = true := rfl
@[simp] theorem BF {f : Nat} : deep (f + 1) .edic = true := rfl
@[simp] theorem BW {f : Nat} {ds : List D} : deep (f + 1) (.tup ds) = ds.all (deep f) := rfl
@[simp] theorem Cq {f : Nat} {ds : List D} : deep (f + 1) (.frl ds) = ds.all (deep f) := rfl
end
noncomputable def Ok {β : Type} (r : R β) (Q : β -> Hh -> Prop) : Prop := ∃ b h, r = .ok b h /\ Q b h
section
variable {β γ : Type} {Q : β -> Hh -> Prop} {h h1 h2 : Hh}
theorem Ok.mono {r : R β} {Q' : β -> Hh -> Prop} (o : Ok r Q) (q : ∀ b h, Q b h -> Q' b h) : Ok r Q' := let ⟨b, h, e, z⟩ := o; ⟨b, h, e, q b h z⟩
end
theorem oZ {X : Type} {tg : D -> En -> Hh -> R En} {body : MS} {QS : Fl -> Hh -> Prop} (enc : X -> D) (I : En -> Hh -> Prop) :
    ∀ (xs : List X) (env : En) (h : Hh), I env h -> (∀ x e h, x ∈ xs -> I e h -> Ok ((tg (enc x) e h).bind body) fun fl h2 => match fl with
      | .nx e => I e h2
      | .ct e => I e h2
      | .bk e => QS (.nx e) h2
      | .rt d => QS (.rt d) h2) -> (∀ e h, I e h -> QS (.nx e) h) -> Ok (cT tg body (xs.map enc) env h) QS
  | [], env, h, i, _, q => ⟨_, _, rfl, q _ _ i⟩
  | x :: xs, env, h, i, st, q => by
    obtain ⟨fl, h2, e, z⟩ := st x env h List.mem_cons_self i
    rw [List.map_cons, cT, <- bg, e, bN]
    cases fl with
    | nx e' => exact oZ enc I xs e' h2 z (fun y e h hy => st y e h (List.mem_cons_of_mem _ hy)) q
    | ct e' => exact oZ enc I xs e' h2 z (fun y e h hy => st y e h (List.mem_cons_of_mem _ hy)) q
    | bk e => exact ⟨_, _, rfl, z⟩
    | rt d => exact ⟨_, _, rfl, z⟩
end L2.FE
namespace L2.FE
open PySem PySem.Spec PyProof.Rows
noncomputable def zK (h : Hh) (n : Nat) : Option (List (Key × D)) := match h[n]? with
  | some (.dic kvs) => some kvs
  | _ => none
noncomputable abbrev PD (K : PySem.W.Frag) (g : GG) (α : List Addr) (H : Hp) : List (Key × D) -> List (Key × V) -> Prop := Paired (fun (a : Key × D) (b : Key × V) => a.1 = b.1 /\ aB K g α H a.2 b.2)
section
variable {K : PySem.W.Frag} {g : GG} {α : List Addr} {H : Hp} {h : Hh}
theorem aN.dic {n : Nat} {p : Addr} {kvs : List (Key × D)} (r : aN K g α H h) (e : zK h n = some kvs) (hp : α[n]? = some p) : ∃ kws, H p = some (.dK kws) /\ PD K g α H kvs kws := by
  unfold zK at e
  cases eo : h[n]? with
  | none => rw [eo] at e; cases e
  | some o =>
    rw [eo] at e
    cases o with
    | dic k => cases e; exact r.here n p _ hp eo
    | _ => cases e
theorem PD.ext {α' : List Addr} {H' : Hp} {kvs : List (Key × D)} {kws : List (Key × V)} (e : Ext K α H α' H') (r : PD K g α H kvs kws) : PD K g α' H' kvs kws := Paired.CW e.toEx0 r
theorem aF.dic {Q : VK} {kvs : List (Key × D)} {kws : List (Key × V)} {p : Addr} (w : aF K g α H Q (.ref h.length) (h ++ [.dic kvs])) (r : aN K g α H h) (rs : PD K g α H kvs kws) (hp : H p = none) : Q (.ref p) (upd H p (.dK kws)) := by
  have x := Ext.push (K := K) (α := α) (o := .dK kws) hp
  exact w _ _ _ x (r.push hp ⟨_, aR, rs.ext x⟩) (.ref (by rw [<- r.len]; simp))
end
noncomputable def BB : D -> Option Key
  | .int i => some (.inl i)
  | .str x => some (.inr x)
  | _ => none
theorem Ar {K : PySem.W.Frag} {g : GG} {α : List Addr} {H : Hp} {d : D} {v : V} {k : Key} (r : aB K g α H d v) (e : BB d = some k) : v = kV k := by
  cases r <;> cases e <;> rfl
section
variable {X : Cx} {g : GG} {ε : EE} {o i e f : Expr} {mo mi me mf : ME} {pos : Pos}
theorem un1 {A : Around} (h : A.units + 64 < cLine) : A.units + 1 < cLine := by omega
theorem p7 : ∀ (ks : List V) (us : List Value), us.length = ks.length -> (∀ (j : Nat) (u : Value), us[j]? = some u -> ∃ v, ks[j]? = some v /\ RelV v u) -> Vals ks us
  | [], [], _, _ => .nil
  | [], _ :: _, e, _ => by simp at e
  | _ :: _, [], e, _ => by simp at e
  | k :: ks, u :: us, e, h => by
    obtain ⟨v, e1, r⟩ := h 0 u rfl
    cases e1
    exact .cons r (p7 ks us (by simpa using e) fun j w hj => h (j + 1) w hj)
end
end L2.FE
namespace L2
open PySem PySem.Spec PyProof.Rows
structure Fly (B : Heap) (l : List Env) (e : Addr) (C : Value) (dc : Option Addr) (fl : Value) (h : Heap) : Prop where
  stays : B.StaysIn h
  new : B.get? e = none
  fr : h.FunFrames B l
  obj : ∃ oe ws T oT ts, h.get? e = some oe /\ oe.cls = C /\ oe.dict = dc /\ oe.data = .fields ws /\ ws[1]? = some (.ref T) /\ B.get? T = none /\ T ≠ e /\ h.get? T = some oT /\ oT.data = .fields ts /\ ts[3]? = some fl
theorem Fly.there {B : Heap} {l : List Env} {e : Addr} {C : Value} {dc : Option Addr} {fl : Value} {h : Heap} (x : Fly B l e C dc fl h) : ∃ oe ws, h.get? e = some oe /\ oe.cls = C /\ oe.dict = dc /\ oe.data = .fields ws := by
  obtain ⟨oe, ws, T, oT, ts, a, b, c, d, _⟩ := x.obj
  exact ⟨oe, ws, a, b, c, d⟩
noncomputable def Arr (B : Heap) (l : List Env) (e : Addr) (C : Value) (dc : Option Addr) (h : Heap) : Prop :=
  (B.StaysIn h /\ B.get? e = none /\ h.FunFrames B l /\ ∃ oe ws, h.get? e = some oe /\ oe.cls = C /\ oe.dict = dc /\ oe.data = .fields ws /\ ws[1]? = some .none) \/ Fly B l e C dc .none h
theorem Arr.stays {B : Heap} {l : List Env} {e : Addr} {C : Value} {dc : Option Addr} {h : Heap} (x : Arr B l e C dc h) : B.StaysIn h := x.elim (·.1) (·.stays)
theorem Arr.new {B : Heap} {l : List Env} {e : Addr} {C : Value} {dc : Option Addr} {h : Heap} (x : Arr B l e C dc h) : B.get? e = none := x.elim (·.2.1) (·.new)
theorem Arr.fr {B : Heap} {l : List Env} {e : Addr} {C : Value} {dc : Option Addr} {h : Heap} (x : Arr B l e C dc h) : h.FunFrames B l := x.elim (·.2.2.1) (·.fr)
end L2
namespace L2.FE
open PySem PySem.Spec PyProof.Rows
noncomputable def noR {β : Type} : R β -> R β
  | .ok b h => .ok b h
  | _ => .bad
@[simp] theorem Et {β : Type} (b : β) (h : Hh) : noR (.ok b h) = .ok b h := rfl
noncomputable def up {β : Type} (m : En -> Hh -> R β) : En -> Hh -> R β := fun env h => noR (m env h)
theorem us0 {P : List Value -> Prop} {us : List Value} (hl : us.length = 0) (h : P []) : P us := by cases us with | nil => exact h | cons _ _ => cases hl
theorem us1 {P : List Value -> Prop} {us : List Value} (hl : us.length = 1) (h : ∀ a, P [a]) : P us := by cases us with | nil => cases hl | cons a us => exact us0 (P := fun us => P (a :: us)) (Nat.succ.inj hl) (h a)
theorem us2 {P : List Value -> Prop} {us : List Value} (hl : us.length = 2) (h : ∀ a b, P [a, b]) : P us := by cases us with | nil => cases hl | cons a us => exact us1 (P := fun us => P (a :: us)) (Nat.succ.inj hl) (h a)
theorem us3 {P : List Value -> Prop} {us : List Value} (hl : us.length = 3) (h : ∀ a b c, P [a, b, c]) : P us := by cases us with | nil => cases hl | cons a us => exact us2 (P := fun us => P (a :: us)) (Nat.succ.inj hl) (h a)
theorem jP {fd : FuncData} {ps : List Str} {us : List Value} (hl : us.length = 1) (h : ∀ a : Value, bindArgs fd ⟨[a], []⟩ = pure (ps.zip [a])) : bindArgs fd ⟨us, []⟩ = pure (ps.zip us) := us1 (P := fun us => bindArgs fd ⟨us, []⟩ = pure (ps.zip us)) hl h
theorem kN {fd : FuncData} {ps : List Str} {us : List Value} (hl : us.length = 2) (h : ∀ a b : Value, bindArgs fd ⟨[a, b], []⟩ = pure (ps.zip [a, b])) : bindArgs fd ⟨us, []⟩ = pure (ps.zip us) := us2 (P := fun us => bindArgs fd ⟨us, []⟩ = pure (ps.zip us)) hl h
theorem Ce {fd : FuncData} {ps : List Str} {us : List Value} (hl : us.length = 3) (h : ∀ a b c : Value, bindArgs fd ⟨[a, b, c], []⟩ = pure (ps.zip [a, b, c])) : bindArgs fd ⟨us, []⟩ = pure (ps.zip us) := us3 (P := fun us => bindArgs fd ⟨us, []⟩ = pure (ps.zip us)) hl h
end L2.FE
namespace L2.Srt
open PySem PySem.W PyProof.Rows
inductive Ev (lt : Nat -> Nat -> Bool) (n : Nat) {α : Type} : KasT α -> α -> Prop
  | ret (a : α) : Ev lt n (.ret a) a
  | ask {i j : Nat} {k : Bool -> KasT α} {a : α} : i < n -> j < n -> Ev lt n (k (lt i j)) a -> Ev lt n (.ask i j k) a
theorem Ev.bind {lt : Nat -> Nat -> Bool} {n : Nat} {α β : Type} {f : α -> KasT β} {t : KasT α} {a : α} {b : β} (h : Ev lt n t a) (g : Ev lt n (f a) b) : Ev lt n (t.bind f) b := by
  induction h with
  | ret a => exact g
  | ask i j _ ih => exact .ask i j (ih g)
theorem Ev.wp {lt : Nat -> Nat -> Bool} {n : Nat} {α : Type} {t : KasT α} {a : α} {cmp : Nat -> Nat -> (Bool -> Shared -> Prop) -> Shared -> Prop} {Q : α -> Shared -> Prop} {s : Shared} (h : Ev lt n t a) (hc : ∀ i j, i < n -> j < n -> ∀ C : Bool -> Shared -> Prop, C (lt i j) s -> cmp i j C s) (q : Q a s) : t.kasWp cmp Q s := by
  induction h with
  | ret a => exact q
  | ask hi hj _ ih => exact hc _ _ hi hj _ (ih q)
section
variable {n : Nat} {key : Nat -> Int}
noncomputable def ltK (key : Nat -> Int) (i j : Nat) : Bool := decide (key i < key j)
structure Pm (n : Nat) (p : Array Nat) : Prop where
  size : p.size = n
  perm : p.Perm (List.range n).toArray
theorem Pm.lt {p : Array Nat} (h : Pm n p) {i : Nat} (hi : i < n) : p.getD i 0 < n := by
  have hi' : i < p.size := by rw [h.size]; exact hi
  have e : p.getD i 0 = p[i] := by simp [Array.getD, hi']
  rw [e]
  have := h.perm.mem_iff.mp (Array.getElem_mem hi')
  simpa using this
theorem Pm.inj {p : Array Nat} (h : Pm n p) {i j : Nat} (hi : i < n) (hj : j < n) (e : p.getD i 0 = p.getD j 0) : i = j := by
  have nd : p.toList.Nodup := (h.perm.toList.nodup_iff).mpr (by simpa using List.nodup_range)
  have hi' : i < p.toList.length := by simp [h.size, hi]
  have hj' : j < p.toList.length := by simp [h.size, hj]
  have a : p.getD i 0 = p.toList[i] := by simp [Array.getD, h.size, hi]
  have b : p.getD j 0 = p.toList[j] := by simp [Array.getD, h.size, hj]
  rw [a, b] at e
  exact (List.getElem_inj nd).mp e
noncomputable def Up (key : Nat -> Int) (p : Array Nat) (m : Nat) : Prop := ∀ i j, i < j -> j < m -> key (p.getD i 0) < key (p.getD j 0)
noncomputable def Dn (key : Nat -> Int) (p : Array Nat) (m : Nat) : Prop := ∀ i j, i < j -> j < m -> key (p.getD j 0) < key (p.getD i 0)
variable (inj : ∀ i j, i < n -> j < n -> key i = key j -> i = j)
include inj
theorem sh {p : Array Nat} (h : Pm n p) {i j : Nat} (hi : i < n) (hj : j < n) (hn : i ≠ j) : key (p.getD i 0) ≠ key (p.getD j 0) := fun e => hn (h.inj hi hj (inj _ _ (h.lt hi) (h.lt hj) e))
theorem sm {p : Array Nat} (h : Pm n p) : ∀ (f m : Nat), 1 <= m -> m + f <= n -> Up key p m -> ∃ m', Ev (ltK key) n (kas_asc p f m) m' /\ m <= m' /\ m' <= m + f /\ Up key p m' /\ (m' < m + f -> key (p.getD m' 0) < key (p.getD (m' - 1) 0))
  | 0, m, _, _, u => ⟨m, .ret m, by omega, by omega, u, fun z => by omega⟩
  | f + 1, m, h1, h2, u => by
    unfold kas_asc
    by_cases c : key (p.getD m 0) < key (p.getD (m - 1) 0)
    · refine ⟨m, .ask (h.lt (by omega)) (h.lt (by omega)) ?_, by omega, by omega, u, fun _ => c⟩
      rw [show ltK key (p.getD m 0) (p.getD (m - 1) 0) = true from decide_eq_true c, if_pos rfl]
      exact .ret m
    · have ne := sh inj h (i := m) (j := m - 1) (by omega) (by omega) (by omega)
      have u' : Up key p (m + 1) := fun i j hij hj => by
        by_cases z : j = m
        · subst z
          by_cases z2 : i = j - 1
          · subst z2; omega
          · have := u i (j - 1) (by omega) (by omega); omega
        · exact u i j hij (by omega)
      obtain ⟨m', e, a, b, u2, k⟩ := sm h f (m + 1) (by omega) (by omega) u'
      refine ⟨m', .ask (h.lt (by omega)) (h.lt (by omega)) ?_, by omega, by omega, u2, fun z => k (by omega)⟩
      rw [show ltK key (p.getD m 0) (p.getD (m - 1) 0) = false from decide_eq_false c, if_neg (by decide)]
      exact e
theorem tq {p : Array Nat} (h : Pm n p) : ∀ (f m : Nat), 1 <= m -> m + f <= n -> Dn key p m -> ∃ m', Ev (ltK key) n (kas_desc f p m 0) (p, m', 0) /\ m <= m' /\ m' <= m + f /\ Dn key p m'
  | 0, m, _, _, u => ⟨m, .ret _, by omega, by omega, u⟩
  | f + 1, m, h1, h2, u => by
    unfold kas_desc
    have ne := sh inj h (i := m) (j := m - 1) (by omega) (by omega) (by omega)
    by_cases c : key (p.getD m 0) < key (p.getD (m - 1) 0)
    · have u' : Dn key p (m + 1) := fun i j hij hj => by
        by_cases z : j = m
        · subst z
          by_cases z2 : i = j - 1
          · subst z2; omega
          · have := u i (j - 1) (by omega) (by omega); omega
        · exact u i j hij (by omega)
      obtain ⟨m', e, a, b, u2⟩ := tq h f (m + 1) (by omega) (by omega) u'
      refine ⟨m', .ask (h.lt (by omega)) (h.lt (by omega)) ?_, by omega, by omega, u2⟩
      rw [show ltK key (p.getD m 0) (p.getD (m - 1) 0) = true from decide_eq_true c, if_pos rfl, if_neg (by omega)]
      exact e
    · refine ⟨m, .ask (h.lt (by omega)) (h.lt (by omega)) ?_, by omega, by omega, u⟩
      rw [show ltK key (p.getD m 0) (p.getD (m - 1) 0) = false from decide_eq_false c, if_neg (by decide)]
      refine .ask (h.lt (by omega)) (h.lt (by omega)) ?_
      rw [show ltK key (p.getD (m - 1) 0) (p.getD m 0) = true from decide_eq_true (by omega), if_pos rfl]
      exact .ret _
theorem kT {p : Array Nat} (h : Pm n p) {k : Nat} (hk : k < n) : ∀ (f l r : Nat), l <= r -> r <= k -> r - l <= f -> (∀ i, i < l -> key (p.getD i 0) < key (p.getD k 0)) -> (∀ i, r <= i -> i < k -> key (p.getD k 0) < key (p.getD i 0)) -> Up key p k →
    ∃ l', Ev (ltK key) n (kas_place p k f l r) l' /\ l' <= k /\ (∀ i, i < l' -> key (p.getD i 0) < key (p.getD k 0)) /\ (∀ i, l' <= i -> i < k -> key (p.getD k 0) < key (p.getD i 0))
  | 0, l, r, h1, h2, hf, a, b, u => ⟨l, .ret l, by omega, a, fun i hi => b i (by omega)⟩
  | f + 1, l, r, h1, h2, hf, a, b, u => by
    unfold kas_place
    by_cases z : l ≥ r
    · rw [if_pos z]; exact ⟨l, .ret l, by omega, a, fun i hi => b i (by omega)⟩
    · rw [if_neg z]
      have ne := sh inj h (i := k) (j := (l + r) / 2) hk (by omega) (by omega)
      by_cases c : key (p.getD k 0) < key (p.getD ((l + r) / 2) 0)
      · obtain ⟨l', e, q⟩ := kT h hk f l ((l + r) / 2) (by omega) (by omega) (by omega) a (fun i hi hi2 => by
          by_cases z2 : i = (l + r) / 2
          · subst z2; exact c
          · have := u ((l + r) / 2) i (by omega) hi2; omega) u
        refine ⟨l', .ask (h.lt hk) (h.lt (by omega)) ?_, q⟩
        rw [show ltK key (p.getD k 0) (p.getD ((l + r) / 2) 0) = true from decide_eq_true c, if_pos rfl]
        exact e
      · obtain ⟨l', e, q⟩ := kT h hk f ((l + r) / 2 + 1) r (by omega) h2 (by omega) (fun i hi => by
          by_cases z2 : i = (l + r) / 2
          · subst z2; omega
          · have := u i ((l + r) / 2) (by omega) (by omega); omega) b u
        refine ⟨l', .ask (h.lt hk) (h.lt (by omega)) ?_, q⟩
        rw [show ltK key (p.getD k 0) (p.getD ((l + r) / 2) 0) = false from decide_eq_false c, if_neg (by decide)]
        exact e
omit inj in
theorem getD_get {p : Array Nat} {i : Nat} : p.getD i 0 = (p[i]?).getD 0 := by
  by_cases h : i < p.size <;> simp [Array.getD, h]
omit inj in
theorem Am {p : Array Nat} (h : Pm n p) (k d : Nat) : Pm n (bubble p k d) := ⟨by rw [bubble_size, h.size], (bubble_perm p k d).trans h.perm⟩
omit inj in
theorem vF {p : Array Nat} (h : Pm n p) {k l : Nat} (hk : k < n) (hl : l <= k) (i : Nat) : (bubble p k (k - l)).getD i 0 = if i = l then p.getD k 0 else if l < i /\ i <= k then p.getD (i - 1) 0 else p.getD i 0 := by
  have e := getElem?_bubble (xs := p) (src := k) (by rw [h.size]; exact hk) (k - l) (by omega) i
  rw [show k - (k - l) = l by omega] at e
  rw [getD_get, e]
  by_cases a : i = l
  · rw [if_pos a, if_pos a, getD_get]
  · rw [if_neg a, if_neg a]
    by_cases b : l < i /\ i <= k
    · rw [if_pos b, if_pos b, getD_get]
    · rw [if_neg b, if_neg b, getD_get]
omit inj in
theorem Bi {p : Array Nat} (h : Pm n p) {k l : Nat} (hk : k < n) (hl : l <= k) (u : Up key p k) (a : ∀ i, i < l -> key (p.getD i 0) < key (p.getD k 0)) (b : ∀ i, l <= i -> i < k -> key (p.getD k 0) < key (p.getD i 0)) : Up key (bubble p k (k - l)) (k + 1) := by
  intro i j hij hj
  rw [vF h hk hl i, vF h hk hl j]
  by_cases c1 : i = l
  · rw [if_pos c1, if_neg (by omega), if_pos (by omega)]; exact b _ (by omega) (by omega)
  · rw [if_neg c1]
    by_cases c2 : l < i /\ i <= k
    · rw [if_pos c2, if_neg (by omega), if_pos (by omega)]; exact u _ _ (by omega) (by omega)
    · rw [if_neg c2]
      by_cases c3 : j = l
      · rw [if_pos c3]; exact a _ (by omega)
      · rw [if_neg c3]
        by_cases c4 : l < j /\ j <= k
        · rw [if_pos c4]
          by_cases c5 : i = j - 1
          · omega
          · exact u _ _ (by omega) (by omega)
        · rw [if_neg c4]; exact u _ _ hij (by omega)
theorem u0 : ∀ (f k : Nat) {p : Array Nat}, Pm n p -> k + f <= n -> Up key p k -> ∃ p', Ev (ltK key) n (kas_bin f p k) p' /\ Pm n p' /\ Up key p' (k + f)
  | 0, k, p, h, _, u => ⟨p, .ret p, h, u⟩
  | f + 1, k, p, h, hk, u => by
    obtain ⟨l, e, q1, q2, q3⟩ := kT inj h (k := k) (by omega) k 0 k (by omega) (by omega) (by omega) (fun i hi => by omega) (fun i hi hi2 => by omega) u
    obtain ⟨p', e2, h2, u2⟩ := u0 f (k + 1) (Am h k (k - l)) (by omega) (Bi h (by omega) q1 u q2 q3)
    refine ⟨p', ?_, h2, by rw [show k + (f + 1) = k + 1 + f by omega]; exact u2⟩
    unfold kas_bin
    exact e.bind e2
omit inj in
theorem Bc {p : Array Nat} (h : Pm n p) (i j : Nat) : Pm n (kas_rev p i j) := ⟨by unfold kas_rev; rw [mirror_size, h.size], (mirror_perm p i j _).trans h.perm⟩
omit inj in
theorem Ae {p : Array Nat} (h : Pm n p) {m : Nat} (hm : m <= n) (d : Dn key p m) : Up key (kas_rev p 0 m) m := by
  have e : ∀ i, i < m -> (kas_rev p 0 m).getD i 0 = p.getD (m - 1 - i) 0 := fun i hi => by
    unfold kas_rev
    rw [getD_get, getElem?_mirror_all (by rw [h.size]; exact hm), if_pos (by omega), getD_get]
    congr 2
    omega
  intro i j hij hj
  rw [e i (by omega), e j hj]
  exact d _ _ (by omega) (by omega)
theorem vg {p : Array Nat} (h : Pm n p) (h2 : 2 <= n) : ∃ r p', Ev (ltK key) n (kas_count n p) (r, p') /\ Pm n p' /\ 1 <= r /\ r <= n /\ Up key p' r := by
  obtain ⟨m, e, a, b, u, k⟩ := sm inj h (n - 1) 1 (by omega) (by omega) (fun i j hij hj => by omega)
  unfold kas_count
  by_cases c : m = n
  · refine ⟨m, p, e.bind ?_, h, a, by omega, u⟩
    rw [if_pos (by simpa using c)]
    exact .ret _
  · have k := k (by omega)
    by_cases c2 : m > 1
    · refine ⟨m, p, e.bind ?_, h, a, by omega, u⟩
      rw [if_neg (by simpa using c), if_pos c2]
      refine .ask (h.lt (by omega)) (h.lt (by omega)) ?_
      rw [show ltK key (p.getD 0 0) (p.getD (m - 1) 0) = true from decide_eq_true (u _ _ (by omega) (by omega)), if_pos rfl]
      exact .ret _
    · have m1 : m = 1 := by omega
      subst m1
      obtain ⟨q, e2, a2, b2, d2⟩ := tq inj h (n - 2) 2 (by omega) (by omega) (fun i j hij hj => by
        have : i = 0 /\ j = 1 := by omega
        obtain ⟨rfl, rfl⟩ := this
        exact k)
      have hp := Bc h 0 q
      obtain ⟨r, e3, a3, b3, u3, _⟩ := sm inj hp (n - q) q (by omega) (by omega) (Ae h (by omega) d2)
      refine ⟨r, kas_rev p 0 q, e.bind ?_, hp, by omega, by omega, u3⟩
      rw [if_neg (by simpa using c), if_neg c2]
      unfold kas_descPart
      refine Ev.bind (a := (p, q, 0)) e2 ?_
      rw [if_neg (by show ¬ (0 > 0); omega)]
      unfold kas_tail3
      exact e3.bind (.ret _)
theorem xS (h2 : 2 <= n) : ∃ p, Ev (ltK key) n (kas_sort n) p /\ Pm n p /\ Up key p n := by
  have h0 : Pm n (List.toArray (List.range n)) := ⟨by simp, Array.Perm.refl _⟩
  obtain ⟨r, p, e, h, a, b, u⟩ := vg inj h0 h2
  unfold kas_sort
  by_cases c : r < n
  · obtain ⟨p', e2, h', u'⟩ := u0 inj (n - max r 1) (max r 1) h (by omega) (by rw [show max r 1 = r by omega]; exact u)
    refine ⟨p', e.bind ?_, h', by rw [show max r 1 + (n - max r 1) = n by omega] at u'; exact u'⟩
    rw [if_pos c]
    exact e2
  · refine ⟨p, e.bind ?_, h, by rw [show r = n by omega] at u; exact u⟩
    rw [if_neg c]
    exact .ret _
end
end L2.Srt
namespace L2.Srt
open PySem PySem.W PyProof.Rows PySem.Calls
section
variable {prog : Program} {w : World} {A : Around} {E : Value -> Shared -> Prop} {s : Shared} {a : Addr} {vs : List Value} {κ : SortKind}
noncomputable def cx (h : Heap) (a : Addr) (vs : List Value) : Heap := ((h.update a (Obj.mapSeq fun _ => (#[] : Array Value))).push (seqObj "tuple" vs.toArray 0)).push (seqObj "list" #[] 0)
theorem l0 {n : Nat} {p : Array Nat} {P : PySem.Fin -> Shared -> Prop} (ho : s.heap.get? a = some (seqObj "list" vs.toArray n)) (h2 : 2 <= vs.length) (h64 : vs.length < 64) (hp : p.size = vs.length)
    (hk : wpAny (model prog w) A (keyKind' vs.toArray) (fun κ s' => (kas_sort vs.length).kasWp (kas_ask prog w A κ vs) (fun p' s'' => p' = p /\ s'' = { s with heap := cx s.heap a vs }) s') (fun _ _ => False) { s with heap := cx s.heap a vs })
    (h : P (.done (.ret .none)) { s with heap := sortedHeap s.heap a vs (List.toArray (p.toList.map fun i => vs.getD i Value.none)) }) :
    wpAny (model prog w) A (Builtin.«list.sort» ⟨[.ref a], []⟩) P E s := by
  have ha : a < s.heap.objs.size := Heap.lt_size ho
  obtain ⟨e1, ho1⟩ : ∃ e1, (s.heap.update a (Obj.mapSeq fun _ => (#[] : Array Value))).get? a = some (seqObj "list" #[] e1) := ⟨_, get?_update_seq ho fun _ => #[]⟩
  have hm : (cx s.heap a vs).get? a = some (seqObj "list" #[] e1) := Heap.get?_push_of_some _ (Heap.get?_push_of_some _ ho1)
  rw [list_sort_plain]
  refine wpAny_bind (listItems_at ho rfl ?_)
  refine wpAny_bind (listUpdate_at ho rfl ?_ (by rw [List.size_toArray, sizeLine_eq]; omega) (Nat.zero_le _))
  refine wpAny_bind (seqEpoch_at ho1 rfl ?_)
  refine wpAny_bind (wpAny_newTuple ?_ (by show vs.length <= _; rw [sizeLine_eq]; omega))
  refine wpAny_bind (wpAny_newList ?_ (Nat.zero_le _))
  refine wpAny_holding ?_
  show wpAny (model prog w) A _ P E { s with heap := cx s.heap a vs }
  dsimp only
  have hn2 : ¬ vs.toArray.size < 2 := by rw [List.size_toArray]; omega
  rw [if_neg hn2, if_neg hn2]
  refine wpAny_bind (wpAny_mono hk (fun κ s0 hk => ?_) fun _ _ x => x.elim)
  refine wpAny_bind (wpAny_mono (kat_run (Q := fun st' s' => arrOf st' = p.map (kas_item (vs.toArray.zip vs.toArray)) /\ failedOf st' = none /\ s' = { s with heap := cx s.heap a vs }) rfl h2 h64 (fun p' st' s' a1 a2 a3 a4 => ⟨by rw [a2, a4.1], a3, a4.2⟩) hk) ?_ fun _ _ e => e)
  rintro ⟨⟨⟩, st'⟩ s' ⟨har, hf, rfl⟩
  dsimp only
  have hout := kat_snds rfl har
  have hsz : (List.toArray (p.toList.map fun i => vs.getD i Value.none)).size = vs.length := by rw [List.size_toArray, List.length_map, Array.length_toList, hp]
  rw [hout]
  refine wpAny_bind (seqEpoch_at hm rfl ?_)
  refine wpAny_bind (listUpdate_at hm rfl ?_ (Nat.zero_le _) (Nat.le_trans (Nat.le_of_eq hsz) (by rw [sizeLine_eq]; omega)))
  rw [hf]
  simp only [bne_self_eq_false, Bool.false_eq_true, if_false]
  exact wpAny_pure h
end
section
variable {prog : Program} {w : World} {A : Around} {E : Value -> Shared -> Prop} {s : Shared} {vs : List Value}
noncomputable def b_ (h : Heap) (vs : List Value) : Heap := ((h.push (seqObj "list" #[] 0)).update h.objs.size (Obj.mapSeq (· ++ vs.toArray))).push (seqObj "list" vs.toArray 0)
theorem zv {h : Heap} {b : Addr} {o : Obj} (q : h.get? b = some o) : (b_ h vs).get? b = some o := by
  have hsz : ((h.push (seqObj "list" #[] 0)).update h.objs.size (Obj.mapSeq (· ++ vs.toArray))).objs.size = h.objs.size + 1 := by rw [Heap.size_update, size_push']
  have hlt : b < h.objs.size := Heap.lt_size q
  unfold b_
  rw [Heap.get?_push_ne _ _ _ (by rw [hsz]; exact Nat.ne_of_lt (Nat.lt_succ_of_lt hlt)), Heap.get?_update_ne _ _ _ _ (Nat.ne_of_lt hlt), Heap.get?_push_ne _ _ _ (Nat.ne_of_lt hlt)]
  exact q
theorem yT {h : Heap} {a b : Addr} {o : Obj} (hn : b ≠ a) (q : h.get? b = some o) : (cx h a vs).get? b = some o := by
  unfold cx
  exact Heap.get?_push_of_some _ (Heap.get?_push_of_some _ (by rw [Heap.get?_update_ne _ _ _ _ hn]; exact q))
theorem qG {l : Addr} {p : Array Nat} {Q : Value -> Shared -> Prop} (hl : s.heap.IsList l vs.toArray) (h2 : 2 <= vs.length) (h64 : vs.length < 64) (hp : p.size = vs.length)
    (hk : wpAny (model prog w) A.in1.in1 (keyKind' vs.toArray) (fun κ s' => (kas_sort vs.length).kasWp (kas_ask prog w A.in1.in1 κ vs) (fun p' s'' => p' = p /\ s'' = { s with heap := cx (b_ s.heap vs) (s.heap.objs.size + 1) vs }) s') (fun _ _ => False) { s with heap := cx (b_ s.heap vs) (s.heap.objs.size + 1) vs })
    (h : Q (.ref (s.heap.objs.size + 1)) { s with heap := sortedAll s.heap vs (List.toArray (p.toList.map fun i => vs.getD i Value.none)) }) :
    wpAny (model prog w) A (call (.builtin "sorted") [.ref l]) Q E s := by
  refine Calls.call_function_entry kind_sorted plain_sorted entry_sorted (args_sorted1 _) ?_
  unfold Builtin.«sorted»
  refine wpAny_bind (m := checkCount "sorted" 1 1 _) (wpAny_pure ?_)
  refine wpAny_bind (collect_list hl ?_ (by rw [sizeLine_eq]; omega))
  refine wpAny_bind (wpAny_newList ?_ (by rw [sizeLine_eq]; omega))
  have hsz : ((s.heap.push (seqObj "list" #[] 0)).update s.heap.objs.size (Obj.mapSeq (· ++ vs.toArray))).objs.size = s.heap.objs.size + 1 := by
    rw [Heap.size_update, size_push']
  have hoL : (b_ s.heap vs).get? (s.heap.objs.size + 1) = some (seqObj "list" vs.toArray 0) := by
    unfold b_; rw [<- hsz]; exact Heap.get?_push_size _ rfl
  show wpAny _ _ _ _ _ { s with heap := b_ s.heap vs }
  rw [hsz]
  refine wpAny_bind (wpAny_holding (wpAny_call_entry slot_list_sort ⟨_, hoL, rfl⟩ entry_list_sort (l0 (s := { s with heap := b_ s.heap vs }) hoL h2 h64 hp hk ⟨_, rfl, ?_⟩) (args_list_sort _)))
  exact wpAny_pure ⟨_, rfl, h⟩
inductive Prs (h : Heap) : List Value -> List (Int × Int) -> Prop
  | nil : Prs h [] []
  | cons {a : Addr} {o : Obj} {k : Nat} {t u : Tok} {x y : Int} {vs : List Value} {ps : List (Int × Int)} : h.get? a = some o -> o.cls = .type "tuple" -> o.data = .seq #[.int x t, .int y u] k -> Prs h vs ps -> Prs h (.ref a :: vs) ((x, y) :: ps)
theorem Prs.len {h : Heap} {vs : List Value} {ps : List (Int × Int)} (r : Prs h vs ps) : vs.length = ps.length := by
  induction r with
  | nil => rfl
  | cons _ _ _ _ ih => simp [ih]
theorem Prs.keeps {h h' : Heap} {vs : List Value} {ps : List (Int × Int)} (r : Prs h vs ps) (k : ∀ b o, h.get? b = some o -> h'.get? b = some o) : Prs h' vs ps := by
  induction r with
  | nil => exact .nil
  | cons a b c _ ih => exact .cons (k _ _ a) b c ih
theorem Prs.at_ {h : Heap} {vs : List Value} {ps : List (Int × Int)} (r : Prs h vs ps) : ∀ {i : Nat}, i < ps.length -> ∃ a o k t u, vs.getD i Value.none = .ref a /\ h.get? a = some o /\ o.data = .seq #[.int (ps.getD i (0, 0)).1 t, .int (ps.getD i (0, 0)).2 u] k := by
  induction r with
  | nil => intro i hi; simp at hi
  | @cons a o k t u x y vs ps ha hc hd r ih =>
    intro i hi
    cases i with
    | zero => exact ⟨a, o, k, t, u, rfl, ha, hd⟩
    | succ i =>
      obtain ⟨a', o', k', t', u', e1, e2, e3⟩ := ih (i := i) (by simpa using hi)
      exact ⟨a', o', k', t', u', by simpa using e1, e2, by simpa using e3⟩
theorem Prs.lM {h : Heap} {vs : List Value} {ps : List (Int × Int)} (r : Prs h vs ps) : ∃ fs, KatTups h vs fs /\ fs.length = ps.length /\ ∀ v ∈ fs, ∃ x t, v = Value.int x t := by
  induction r with
  | nil => exact ⟨[], KatTups.nil, rfl, by simp⟩
  | @cons a o k t u x y vs ps ha hc hd r ih =>
    obtain ⟨fs, q1, q2, q3⟩ := ih
    refine ⟨.int x t :: fs, KatTups.cons ha hc hd rfl q1, by simp [q2], fun v hv => ?_⟩
    rcases List.mem_cons.mp hv with rfl | hv
    · exact ⟨x, t, rfl⟩
    · exact q3 v hv
noncomputable def fE (ps : List (Int × Int)) (i : Nat) : Int := (ps.getD i (0, 0)).1 * 100 + (ps.getD i (0, 0)).2
theorem yb {x1 y1 x2 y2 : Int} {a b : Addr} {oa ob : Obj} {k j : Nat} {t1 u1 t2 u2 : Tok} {Q : Bool -> Shared -> Prop} (ha : s.heap.get? a = some oa) (da : oa.data = .seq #[.int x1 t1, .int y1 u1] k) (hb : s.heap.get? b = some ob) (db : ob.data = .seq #[.int x2 t2, .int y2 u2] j)
    (h1 : 0 <= y1 /\ y1 < 100) (h2 : 0 <= y2 /\ y2 < 100) (h : Q (decide (x1 * 100 + y1 < x2 * 100 + y2)) s) : wpAny (model prog w) A (keyLt' (tuples' true) (.ref a) (.ref b)) Q E s := by
  refine kat_lt ha da hb db ?_
  show KatLex prog w A true _ Q [(.int x1 t1, .int x2 t2), (.int y1 u1, .int y2 u2)] 0 s
  refine kat_cons (wpAny_eqBool_int (kat_go (fun e => kat_yes (kat_cons (wpAny_eqBool_int (kat_go (fun e2 => kat_yes (kat_nil ?_)) (fun e2 => kat_no ?_))))) (fun e => kat_no ?_)))
  · have e : x1 = x2 := by simpa using e
    have e2 : y1 = y2 := by simpa using e2
    subst e e2
    have : decide (x1 * 100 + y1 < x1 * 100 + y1) = false := decide_eq_false (by omega)
    rw [this] at h
    exact h
  · have e : x1 = x2 := by simpa using e
    subst e
    show wpAny _ _ (oneLt' false _ _) _ _ _
    refine kat_one _ _ (lt_int ?_)
    have : decide (x1 * 100 + y1 < x1 * 100 + y2) = decide (y1 < y2) := by
      by_cases z : y1 < y2
      · rw [decide_eq_true z, decide_eq_true (by omega)]
      · rw [decide_eq_false z, decide_eq_false (by omega)]
    rw [this] at h
    exact h
  · have e : ¬ x1 = x2 := by simpa using e
    show wpAny _ _ (oneLt' true _ _) _ _ _
    refine oneLt_int ?_
    have : decide (x1 * 100 + y1 < x2 * 100 + y2) = decide (x1 < x2) := by
      by_cases z : x1 < x2
      · rw [decide_eq_true z, decide_eq_true (by omega)]
      · rw [decide_eq_false z, decide_eq_false (by omega)]
    rw [this] at h
    exact h
end
section
variable {prog : Program} {w : World} {A : Around} {E : Value -> Shared -> Prop} {s : Shared} {vs : List Value}
theorem oy {l : Addr} {ps : List (Int × Int)} {Q : Value -> Shared -> Prop} (hl : s.heap.IsList l vs.toArray) (r : Prs s.heap vs ps) (h2 : 2 <= ps.length) (h64 : ps.length < 64) (bd : ∀ i, i < ps.length -> 0 <= (ps.getD i (0, 0)).2 /\ (ps.getD i (0, 0)).2 < 100)
    (inj : ∀ i j, i < ps.length -> j < ps.length -> fE ps i = fE ps j -> i = j)
    (h : ∀ p : Array Nat, Pm ps.length p -> Up (fE ps) p ps.length -> Q (.ref (s.heap.objs.size + 1)) { s with heap := sortedAll s.heap vs (List.toArray (p.toList.map fun i => vs.getD i Value.none)) }) :
    wpAny (model prog w) A (call (.builtin "sorted") [.ref l]) Q E s := by
  have len := r.len
  obtain ⟨p, ev, pm, up⟩ := xS inj h2
  have keep : ∀ b o, s.heap.get? b = some o -> (cx (b_ s.heap vs) (s.heap.objs.size + 1) vs).get? b = some o := fun b o q => yT (Nat.ne_of_lt (Nat.lt_succ_of_lt (Heap.lt_size q))) (zv q)
  have r1 := r.keeps keep
  obtain ⟨fs, t, fl, fi⟩ := r1.lM
  refine qG hl (by omega) (by omega) (by rw [pm.size, len]) ?_ (h p pm up)
  refine kat_kind (T := .type "int") t (by omega) (fun v hv => ?_) (by decide +kernel) ?_
  · obtain ⟨x, tk, rfl⟩ := fi v hv
    exact .now
  · rw [show (Value.type "int" != Value.type "tuple") = true by decide +kernel, len]
    refine ev.wp (fun i j hi hj C hc => ?_) ⟨rfl, rfl⟩
    obtain ⟨a, oa, k, t1, u1, e1, ga, da⟩ := r1.at_ hi
    obtain ⟨b, ob, k2, t2, u2, e2, gb, db⟩ := r1.at_ hj
    unfold kas_ask
    rw [e1, e2]
    exact yb ga da gb db (bd i hi) (bd j hj) hc
end
end L2.Srt
namespace L2
open PySem PySem.Spec PyProof.Rows L2.Srt
inductive PrV (K : PySem.W.Frag) (H : Hp) : List V -> List (Int × Int) -> Prop
  | nil : PrV K H [] []
  | cons {a : Addr} {x y : Int} {xs : List V} {ps : List (Int × Int)} : SqT K H a [.int x, .int y] -> PrV K H xs ps -> PrV K H (.ref a :: xs) ((x, y) :: ps)
section
variable {X : Cx}
theorem PrV.len {K : PySem.W.Frag} {H : Hp} {xs : List V} {ps : List (Int × Int)} (r : PrV K H xs ps) : xs.length = ps.length := by
  induction r with
  | nil => rfl
  | cons _ _ ih => simp [ih]
theorem Inv.prs {pins : List (Addr × Obj)} {σ : St} {H : Hp} {s : Shared} (I : Inv X pins σ H s) {xs : List V} {ps : List (Int × Int)} (r : PrV X.K H xs ps) : ∀ {us : List Value}, Vals xs us -> Prs s.heap us ps := by
  induction r with
  | nil => intro us v; cases v; exact .nil
  | cons h _ ih =>
    intro us v
    cases v with
    | cons ru rv =>
      cases ru
      obtain ⟨its, rt, pl, hz⟩ := I.tuple h
      obtain ⟨o, ho, hc, n, hd⟩ := pl
      cases rt with
      | cons r1 rt => cases rt with
        | cons r2 rt =>
          cases rt
          obtain ⟨t1, rfl⟩ := r1
          obtain ⟨t2, rfl⟩ := r2
          exact .cons ho hc hd (ih rv)
theorem nz {xs : List V} {us : List Value} (r : Vals xs us) : ∀ (l : List Nat), (∀ i ∈ l, i < xs.length) -> Vals (l.map fun i => xs.getD i .non) (l.map fun i => us.getD i Value.none)
  | [], _ => .nil
  | i :: l, h => by
    refine .cons ?_ (nz r l fun j hj => h j (List.mem_cons_of_mem _ hj))
    have hi : i < xs.length := h i List.mem_cons_self
    have hu : i < us.length := by rw [<- r.length]; exact hi
    obtain ⟨y, e3, ry⟩ := r.get' (List.getElem?_eq_getElem hu)
    have a : xs.getD i .non = y := by simp [List.getD, e3]
    have b : us.getD i Value.none = us[i] := by simp [hu]
    show RelV (xs.getD i .non) (us.getD i Value.none)
    rw [a, b]
    exact ry
theorem rG : bu X (.builtin "sorted") (fun vs H Q => ∃ (p : Addr) (xs : List V) (ps : List (Int × Int)), vs = [.ref p] /\ SqL X.K H p xs /\ PrV X.K H xs ps /\ 2 <= ps.length /\ ps.length < 64 /\ (∀ i, i < ps.length -> 0 <= (ps.getD i (0, 0)).2 /\ (ps.getD i (0, 0)).2 < 100) /\ (∀ i j, i < ps.length -> j < ps.length -> fE ps i = fE ps j -> i = j) ∧
    ∀ (l : Addr) (q : Array Nat), Pm ps.length q -> Up (fE ps) q ps.length -> H l = none -> Q (.ref l) (upd H l (.lst (q.toList.map fun i => xs.getD i .non)))) := by
  intro pins s σ H xs0 us Q I r h
  obtain ⟨p, xs, ps, rfl, hq, pr, h2, h64, bd, inj, q⟩ := h
  obtain ⟨u, rfl, rx⟩ := vals1 r
  cases rx
  obtain ⟨its, rv, pl, hz⟩ := I.list hq
  refine oy pl.isList (I.prs pr rv) h2 h64 bd inj fun a pm up => ?_
  obtain ⟨k, hk⟩ := sortedAll_at s.heap its (List.toArray (a.toList.map fun i => its.getD i Value.none))
  have hn : H (s.heap.objs.size + 1) = none := I.hok.fresh (Nat.le_succ _)
  have lx := pr.len
  have al : a.toList.length = ps.length := by rw [Array.length_toList, pm.size]
  have len : (a.toList.map fun i => xs.getD i V.non).length <= sizeLine := by
    have : 64 <= sizeLine := by decide
    rw [List.length_map, al]; omega
  have vp := nz rv a.toList (fun i hi => by
    have := pm.perm.mem_iff.mp (by simpa using hi : i ∈ a)
    have : i < ps.length := by simpa using this
    omega)
  refine ⟨.ref (s.heap.objs.size + 1), upd H (s.heap.objs.size + 1) (.lst (a.toList.map fun i => xs.getD i .non)), I.laid (t' := s.toks) (fun _ _ z => sortedAll_old z) (Nat.le_succ _) ⟨len, a.toList.map fun i => its.getD i Value.none, k, vp, ?_⟩, rfl, q _ a pm up hn⟩
  rw [hk]
end
end L2
namespace L2.FE
open PySem PySem.Spec PyProof.Rows L2.Srt
noncomputable abbrev kP (p : Int × Int) : Int := p.1 * 100 + p.2
noncomputable def m_ (x : Int × Int) : List (Int × Int) -> List (Int × Int)
  | [] => [x]
  | y :: r => if kP x <= kP y then x :: y :: r else y :: m_ x r
noncomputable def lu : List (Int × Int) -> List (Int × Int)
  | [] => []
  | x :: r => m_ x (lu r)
theorem jC (x : Int × Int) : ∀ l, (m_ x l).Perm (x :: l)
  | [] => .refl _
  | y :: r => by
    unfold m_
    split
    · exact .refl _
    · exact ((jC x r).cons y).trans (.swap x y r)
theorem iN : ∀ l, (lu l).Perm l
  | [] => .refl _
  | x :: r => (jC x _).trans ((iN r).cons x)
theorem j9 (x : Int × Int) : ∀ l, l.Pairwise (fun a b => kP a <= kP b) -> (m_ x l).Pairwise (fun a b => kP a <= kP b)
  | [], _ => by simp [m_]
  | y :: r, h => by
    unfold m_
    rw [List.pairwise_cons] at h
    split
    · rename_i hx
      refine List.pairwise_cons.mpr ⟨fun z hz => ?_, List.pairwise_cons.mpr h⟩
      rcases List.mem_cons.mp hz with rfl | hz
      · exact hx
      · exact Int.le_trans hx (h.1 z hz)
    · rename_i hx
      refine List.pairwise_cons.mpr ⟨fun z hz => ?_, j9 x r h.2⟩
      rcases List.mem_cons.mp ((jC x r).mem_iff.mp hz) with rfl | hz
      · omega
      · exact h.1 z hz
theorem fH : ∀ l, (lu l).Pairwise (fun a b => kP a <= kP b)
  | [] => .nil
  | x :: r => j9 x _ (fH r)
theorem iK : ∀ {xs ys : List (Int × Int)}, xs.Perm ys -> xs.Pairwise (fun a b => kP a < kP b) -> ys.Pairwise (fun a b => kP a <= kP b) -> xs = ys
  | [], ys, p, _, _ => by rw [List.Perm.eq_nil p.symm]
  | x :: xs, [], p, _, _ => absurd (List.Perm.eq_nil p) (by simp)
  | x :: xs, y :: ys, p, hx, hy => by
    rw [List.pairwise_cons] at hx hy
    have e : x = y := by
      have a : x ∈ y :: ys := p.mem_iff.mp List.mem_cons_self
      have b : y ∈ x :: xs := p.mem_iff.mpr List.mem_cons_self
      rcases List.mem_cons.mp b with z | b
      · exact z.symm
      · have b' := hx.1 y b
        rcases List.mem_cons.mp a with z | a
        · exact z
        · have := hy.1 x a; omega
    subst e
    rw [iK (List.perm_cons x |>.mp p) hx.2 hy.2]
theorem yg {ps : List (Int × Int)} {q : Array Nat} (pm : Pm ps.length q) (up : Up (fE ps) q ps.length) : q.toList.map (fun i => ps.getD i (0, 0)) = lu ps := by
  have ql : q.toList.length = ps.length := by rw [Array.length_toList, pm.size]
  refine iK ?_ ?_ (fH ps)
  · have e : (List.range ps.length).map (fun i => ps.getD i (0, 0)) = ps := by
      apply List.ext_getElem (by simp)
      intro i h1 h2
      simp [h2]
    have := (pm.perm.toList.map fun i => ps.getD i (0, 0))
    simp only [List.toList_toArray] at this
    rw [e] at this
    exact this.trans (iN ps).symm
  · rw [List.pairwise_iff_getElem]
    intro i j hi hj hij
    rw [List.length_map, ql] at hi hj
    have := up i j hij hj
    unfold fE at this
    have gi : q.getD i 0 = q.toList[i]'(by omega) := by simp [Array.getD, pm.size, hi]
    have gj : q.getD j 0 = q.toList[j]'(by omega) := by simp [Array.getD, pm.size, hj]
    rw [gi, gj] at this
    simpa using this
noncomputable def dR (p : Int × Int) : D := .tup [.int p.1, .int p.2]
noncomputable def pairsOf : List D -> Option (List (Int × Int))
  | [] => some []
  | .tup [.int x, .int y] :: r => (pairsOf r).map ((x, y) :: ·)
  | _ => none
noncomputable def okP (ps : List (Int × Int)) : Bool := decide (2 <= ps.length /\ ps.length < 64) && ps.all (fun p => decide (0 <= p.2 /\ p.2 < 100)) && decide ((ps.map kP).Nodup)
noncomputable def kY (nl : NL) : List D -> Hh -> R D := fun ds h => match ds with
  | [.frl xs] => match pairsOf xs with
    | some ps => if okP ps = true then nl ((lu ps).map dR) h else .bad
    | none => .bad
  | _ => .bad
section
variable {X : Cx} {g : GG} {ε : EE} {K : PySem.W.Frag}
theorem nE {α : List Addr} {H : Hp} : ∀ {ds : List D} {xs : List V} {ps : List (Int × Int)}, ar K g α H ds xs -> pairsOf ds = some ps -> PrV K H xs ps /\ ds = ps.map dR
  | _, _, ps, .nil, e => by cases e; exact ⟨.nil, rfl⟩
  | d :: ds, _, ps, .cons rd rs, e => by
    unfold pairsOf at e
    split at e
    · rename_i h; cases h
    · rename_i x y r h
      cases h
      cases hr : pairsOf ds with
      | none => rw [hr] at e; cases e
      | some qs =>
        rw [hr] at e
        cases e
        obtain ⟨a, b⟩ := nE rs hr
        cases rd with
        | tup hp rs2 =>
          cases rs2 with
          | cons r1 rs2 => cases rs2 with
            | cons r2 rs2 =>
              cases rs2
              cases r1
              cases r2
              exact ⟨.cons (SqT.of hp) a, by rw [b]; rfl⟩
    · cases e
theorem sA {α : List Addr} {H : Hp} : ∀ {ds : List D} {xs : List V}, ar K g α H ds xs -> ∀ (i : Nat), i < ds.length -> aB K g α H (ds.getD i .non) (xs.getD i .non)
  | _, _, .nil, i, h => by simp at h
  | _, _, .cons a b, 0, _ => a
  | _, _, .cons a b, i + 1, h => by simpa using sA b i (by simpa using h)
theorem qM {α : List Addr} {H : Hp} {ds : List D} {xs : List V} (r : ar K g α H ds xs) : ∀ (l : List Nat), (∀ i ∈ l, i < ds.length) -> ar K g α H (l.map fun i => ds.getD i .non) (l.map fun i => xs.getD i .non)
  | [], _ => .nil
  | i :: l, h => .cons (sA r i (h i List.mem_cons_self)) (qM r l fun j hj => h j (List.mem_cons_of_mem _ hj))
theorem yp {ps : List (Int × Int)} (nd : (ps.map kP).Nodup) : ∀ i j, i < ps.length -> j < ps.length -> fE ps i = fE ps j -> i = j := fun i j hi hj e => by
  have a : fE ps i = (ps.map kP)[i]'(by simpa using hi) := by simp [fE, kP, hi]
  have b : fE ps j = (ps.map kP)[j]'(by simpa using hj) := by simp [fE, kP, hj]
  rw [a, b] at e
  exact (List.getElem_inj nd).mp e
theorem xC {nl : NL} [gq nl] : kj K g ε (kY nl) (fun vs H Q => ∃ (p : Addr) (xs : List V) (ps : List (Int × Int)), vs = [.ref p] /\ SqL K H p xs /\ PrV K H xs ps /\ 2 <= ps.length /\ ps.length < 64 /\ (∀ i, i < ps.length -> 0 <= (ps.getD i (0, 0)).2 /\ (ps.getD i (0, 0)).2 < 100) /\ (∀ i j, i < ps.length -> j < ps.length -> fE ps i = fE ps j -> i = j) ∧
    ∀ (l : Addr) (q : Array Nat), Pm ps.length q -> Up (fE ps) q ps.length -> H l = none -> fW Q (.ref l) (upd H l (.lst (q.toList.map fun i => xs.getD i .non)))) := by
  intro α H h a x Q r ra w
  unfold kY at w
  cases ra with
  | nil => exact w.elim
  | cons rd rr =>
    cases rr with
    | cons _ _ => cases rd <;> exact w.elim
    | nil =>
      cases rd with
      | @frl ds p vs hp rs =>
        dsimp only at w
        cases e : pairsOf ds with
        | none => rw [e] at w; exact w.elim
        | some ps =>
          rw [e] at w
          obtain ⟨ok, w⟩ := WQ.eW w
          obtain ⟨pr, rfl⟩ := nE rs e
          unfold okP at ok
          simp only [Bool.and_eq_true, decide_eq_true_eq, List.all_eq_true] at ok
          obtain ⟨⟨⟨h2, h64⟩, bd⟩, nd⟩ := ok
          refine ⟨p, vs, ps, rfl, hp.sq, pr, h2, h64, fun i hi => ?_, yp nd, fun l q pm up hl => ?_⟩
          · have gd : ps.getD i (0, 0) = ps[i] := by simp [hi]
            rw [gd]
            exact bd _ (List.getElem_mem hi)
          · have lt : ∀ i ∈ q.toList, i < ps.length := fun i hi => by
              have := pm.perm.mem_iff.mp (by simpa using hi : i ∈ q)
              simpa using this
            have rp := qM rs q.toList (fun i hi => by rw [List.length_map]; exact lt i hi)
            have ee : (q.toList.map fun i => (ps.map dR).getD i .non) = (lu ps).map dR := by
              rw [<- yg pm up, List.map_map]
              refine List.map_congr_left fun i hi => ?_
              have := lt i hi
              simp [this]
            rw [ee] at rp
            exact NL.post w r rp hl
      | _ => exact w.elim
end
end L2.FE
namespace L2.Srt
open PySem PySem.W PyProof.Rows PySem.Calls
section
variable {prog : Program} {w : World} {A : Around} {E : Value -> Shared -> Prop} {s : Shared} {a : Addr} {vs : List Value}
theorem mD {n : Nat} {P : PySem.Fin -> Shared -> Prop} (ho : s.heap.get? a = some (seqObj "list" vs.toArray n)) (h1 : vs.length < 2) (h : P (.done (.ret .none)) { s with heap := sortedHeap s.heap a vs vs.toArray }) :
    wpAny (model prog w) A (Builtin.«list.sort» ⟨[.ref a], []⟩) P E s := by
  obtain ⟨e1, ho1⟩ : ∃ e1, (s.heap.update a (Obj.mapSeq fun _ => (#[] : Array Value))).get? a = some (seqObj "list" #[] e1) := ⟨_, get?_update_seq ho fun _ => #[]⟩
  have hm : (cx s.heap a vs).get? a = some (seqObj "list" #[] e1) := Heap.get?_push_of_some _ (Heap.get?_push_of_some _ ho1)
  rw [list_sort_plain]
  refine wpAny_bind (listItems_at ho rfl ?_)
  refine wpAny_bind (listUpdate_at ho rfl ?_ (by rw [List.size_toArray, sizeLine_eq]; omega) (Nat.zero_le _))
  refine wpAny_bind (seqEpoch_at ho1 rfl ?_)
  refine wpAny_bind (wpAny_newTuple ?_ (by show vs.length <= _; rw [sizeLine_eq]; omega))
  refine wpAny_bind (wpAny_newList ?_ (Nat.zero_le _))
  refine wpAny_holding ?_
  show wpAny (model prog w) A _ P E { s with heap := cx s.heap a vs }
  dsimp only
  have hn2 : vs.toArray.size < 2 := by rw [List.size_toArray]; exact h1
  rw [if_pos hn2, if_pos hn2]
  refine wpAny_bind (wpAny_pure ?_)
  refine wpAny_bind (wpAny_pure (a := ((), SortSt.mk' general' (vs.toArray.zip vs.toArray) #[] 7 none)) ?_)
  dsimp only
  have hout : (arrOf (SortSt.mk' general' (vs.toArray.zip vs.toArray) #[] 7 none)).map (·.2) = vs.toArray := by
    show (vs.toArray.zip vs.toArray).map (·.2) = vs.toArray
    apply Array.toList_inj.mp
    simp [List.map_snd_zip]
  rw [hout]
  refine wpAny_bind (seqEpoch_at hm rfl ?_)
  refine wpAny_bind (listUpdate_at hm rfl ?_ (Nat.zero_le _) (by rw [List.size_toArray, sizeLine_eq]; omega))
  simp only [bne_self_eq_false, Bool.false_eq_true, if_false]
  exact wpAny_pure h
theorem rR {l : Addr} {Q : Value -> Shared -> Prop} (hl : s.heap.IsList l vs.toArray) (h1 : vs.length < 2) (h : Q (.ref (s.heap.objs.size + 1)) { s with heap := sortedAll s.heap vs vs.toArray }) :
    wpAny (model prog w) A (call (.builtin "sorted") [.ref l]) Q E s := by
  refine Calls.call_function_entry kind_sorted plain_sorted entry_sorted (args_sorted1 _) ?_
  unfold Builtin.«sorted»
  refine wpAny_bind (m := checkCount "sorted" 1 1 _) (wpAny_pure ?_)
  refine wpAny_bind (collect_list hl ?_ (by rw [sizeLine_eq]; omega))
  refine wpAny_bind (wpAny_newList ?_ (by rw [sizeLine_eq]; omega))
  have hsz : ((s.heap.push (seqObj "list" #[] 0)).update s.heap.objs.size (Obj.mapSeq (· ++ vs.toArray))).objs.size = s.heap.objs.size + 1 := by
    rw [Heap.size_update, size_push']
  have hoL : (b_ s.heap vs).get? (s.heap.objs.size + 1) = some (seqObj "list" vs.toArray 0) := by
    unfold b_; rw [<- hsz]; exact Heap.get?_push_size _ rfl
  show wpAny _ _ _ _ _ { s with heap := b_ s.heap vs }
  rw [hsz]
  refine wpAny_bind (wpAny_holding (wpAny_call_entry slot_list_sort ⟨_, hoL, rfl⟩ entry_list_sort (mD (s := { s with heap := b_ s.heap vs }) hoL h1 ⟨_, rfl, ?_⟩) (args_list_sort _)))
  exact wpAny_pure ⟨_, rfl, h⟩
end
end L2.Srt
namespace L2
open PySem PySem.Spec PyProof.Rows L2.Srt
section
variable {X : Cx}
theorem rO : bu X (.builtin "sorted") (fun vs H Q => ∃ (p : Addr) (xs : List V), vs = [.ref p] /\ SqL X.K H p xs /\ xs.length < 2 /\ ∀ l, H l = none -> Q (.ref l) (upd H l (.lst xs))) := by
  intro pins s σ H xs0 us Q I r h
  obtain ⟨p, xs, rfl, hq, h1, q⟩ := h
  obtain ⟨u, rfl, rx⟩ := vals1 r
  cases rx
  obtain ⟨its, rv, pl, hz⟩ := I.list hq
  have hl := rv.length
  refine rR pl.isList (by omega) ?_
  obtain ⟨k, hk⟩ := sortedAll_at s.heap its its.toArray
  have hn : H (s.heap.objs.size + 1) = none := I.hok.fresh (Nat.le_succ _)
  have len : xs.length <= sizeLine := by
    have : 64 <= sizeLine := by decide
    omega
  refine ⟨.ref (s.heap.objs.size + 1), upd H (s.heap.objs.size + 1) (.lst xs), I.laid (t' := s.toks) (fun _ _ z => sortedAll_old z) (Nat.le_succ _) ⟨len, its, k, rv, ?_⟩, rfl, q _ hn⟩
  rw [hk]
end
end L2
namespace L2.FE
open PySem PySem.Spec PyProof.Rows L2.Srt
noncomputable def g_ (nl : NL) : List D -> Hh -> R D := fun ds h => match ds with
  | [.frl xs] => if xs.length < 2 then nl xs h else kY nl [.frl xs] h
  | _ => .bad
noncomputable abbrev yX (K : PySem.W.Frag) (F : VK -> VK) : List V -> Hp -> VK -> Prop := fun vs H Q => ∃ (p : Addr) (xs : List V) (ps : List (Int × Int)), vs = [.ref p] /\ SqL K H p xs /\ PrV K H xs ps /\ 2 <= ps.length /\ ps.length < 64 /\ (∀ i, i < ps.length -> 0 <= (ps.getD i (0, 0)).2 /\ (ps.getD i (0, 0)).2 < 100) /\ (∀ i j, i < ps.length -> j < ps.length -> fE ps i = fE ps j -> i = j) ∧
    ∀ (l : Addr) (q : Array Nat), Pm ps.length q -> Up (fE ps) q ps.length -> H l = none -> F Q (.ref l) (upd H l (.lst (q.toList.map fun i => xs.getD i .non)))
noncomputable abbrev yJ (K : PySem.W.Frag) (F : VK -> VK) : List V -> Hp -> VK -> Prop := fun vs H Q => ∃ (p : Addr) (xs : List V), vs = [.ref p] /\ SqL K H p xs /\ xs.length < 2 /\ ∀ l, H l = none -> F Q (.ref l) (upd H l (.lst xs))
section
variable {X : Cx} {g : GG} {ε : EE} {K : PySem.W.Frag}
theorem wN {nl : NL} [gq nl] : kj K g ε (g_ nl) (fun vs H Q => yJ K fW vs H Q \/ yX K fW vs H Q) := by
  intro α H h a x Q r ra w
  cases ra with
  | nil => exact w.elim
  | cons rd rr =>
    cases rr with
    | cons _ _ => unfold g_ at w; cases rd <;> exact w.elim
    | nil =>
      cases rd with
      | @frl ds p vs hp rs =>
        by_cases z : ds.length < 2
        · have w : WQ K g ε α H (nl ds h) (aF K g α H Q) := by
            unfold g_ at w; dsimp only at w; rw [if_pos z] at w; exact w
          exact .inl ⟨p, vs, rfl, hp.sq, by rw [<- rs.length]; exact z, fun l hl => NL.post w r rs hl⟩
        · have w : WQ K g ε α H (kY nl [.frl ds] h) (aF K g α H Q) := by
            unfold g_ at w; dsimp only at w; rw [if_neg z] at w; exact w
          exact .inr (xC α H h _ _ Q r (.cons (.frl hp rs) .nil) w)
      | _ => exact w.elim
end
end L2.FE
namespace L2.FE
open PySem PySem.Spec PyProof.Rows
noncomputable def setOf (h : Hh) (n : Nat) : Option (List Int) := match h[n]? with
  | some (.set ns) => some ns
  | _ => none
section
variable {X : Cx} {g : GG} {ε : EE} {K : PySem.W.Frag}
theorem aN.set {α : List Addr} {H : Hp} {h : Hh} {n : Nat} {p : Addr} {ns : List Int} (r : aN K g α H h) (e : setOf h n = some ns) (hp : α[n]? = some p) : H p = some (.set (fun k => ns.any (· == k)) ns.length) := by
  unfold setOf at e
  cases eo : h[n]? with
  | none => rw [eo] at e; cases e
  | some o =>
    rw [eo] at e
    cases o with
    | set k => cases e; exact r.here n p _ hp eo
    | _ => cases e
end
noncomputable def cI (h : Hh) (n : Nat) : Option (List (List Key × D)) := match h[n]? with
  | some (.dit kvs) => some kvs
  | _ => none
noncomputable def pJ : List (List Key × D) -> List Key -> Option D
  | [], _ => none
  | p :: r, k => if p.1 = k then some p.2 else pJ r k
noncomputable def vK (kvs : List (List Key × D)) (k : List Key) (d : D) : List (List Key × D) :=
  if (kvs.any fun kv => decide (kv.1 = k)) = true then kvs.map (fun kv => if kv.1 = k then (kv.1, d) else kv) else kvs ++ [(k, d)]
noncomputable abbrev PDT (K : PySem.W.Frag) (g : GG) (α : List Addr) (H : Hp) : List (List Key × D) -> List (List Key × V) -> Prop := Paired (fun (a : List Key × D) (b : List Key × V) => a.1 = b.1 /\ aB K g α H a.2 b.2)
section
variable {K : PySem.W.Frag} {g : GG} {α : List Addr} {H : Hp} {h : Hh}
theorem aN.dit {n : Nat} {p : Addr} {kvs : List (List Key × D)} (r : aN K g α H h) (e : cI h n = some kvs) (hp : α[n]? = some p) : ∃ kws, H p = some (.dT kws) /\ PDT K g α H kvs kws := by
  unfold cI at e
  cases eo : h[n]? with
  | none => rw [eo] at e; cases e
  | some o =>
    rw [eo] at e
    cases o with
    | dit k => cases e; exact r.here n p _ hp eo
    | _ => cases e
theorem PDT.val (k : List Key) : ∀ {kvs : List (List Key × D)} {kws : List (List Key × V)}, PDT K g α H kvs kws -> (pJ kvs k = none /\ i3 kws k = none) \/ ∃ d v, pJ kvs k = some d /\ i3 kws k = some v /\ aB K g α H d v
  | _, _, .nil => .inl ⟨rfl, rfl⟩
  | p :: r, q :: t, .cons c rr => by
    by_cases e : p.1 = k
    · exact .inr ⟨p.2, q.2, if_pos e, i5 (c.1 ▸ e), c.2⟩
    · rw [show pJ (p :: r) k = pJ r k from if_neg e, jy (c.1 ▸ e)]
      exact PDT.val k rr
theorem PDT.any (k : List Key) : ∀ {kvs : List (List Key × D)} {kws : List (List Key × V)}, PDT K g α H kvs kws -> (kvs.any fun kv => decide (kv.1 = k)) = kws.any fun kv => decide (kv.1 = k)
  | _, _, .nil => rfl
  | p :: r, q :: t, .cons c rr => by rw [List.any_cons, List.any_cons, PDT.any k rr, c.1]
theorem PDT.tJ (k : List Key) {d : D} {v : V} (rd : aB K g α H d v) : ∀ {kvs : List (List Key × D)} {kws : List (List Key × V)}, PDT K g α H kvs kws →
    PDT K g α H (kvs.map fun kv => if kv.1 = k then (kv.1, d) else kv) (kws.map fun kv => if kv.1 = k then (kv.1, v) else kv)
  | _, _, .nil => .nil
  | p :: r, q :: t, .cons c rr => by
    refine .cons ?_ (PDT.tJ k rd rr)
    dsimp only
    by_cases e : p.1 = k
    · rw [if_pos e, if_pos (c.1 ▸ e)]; exact ⟨c.1, rd⟩
    · rw [if_neg e, if_neg (c.1 ▸ e)]; exact c
theorem PDT.snoc {x : List Key × D} {y : List Key × V} (c : x.1 = y.1 /\ aB K g α H x.2 y.2) : ∀ {kvs : List (List Key × D)} {kws : List (List Key × V)}, PDT K g α H kvs kws -> PDT K g α H (kvs ++ [x]) (kws ++ [y])
  | _, _, .nil => .cons c .nil
  | _ :: _, _ :: _, .cons b rr => .cons b (PDT.snoc c rr)
theorem PDT.put (k : List Key) {d : D} {v : V} (rd : aB K g α H d v) {kvs : List (List Key × D)} {kws : List (List Key × V)} (r : PDT K g α H kvs kws) : PDT K g α H (vK kvs k d) (putK kws k v) := by
  unfold vK putK
  rw [PDT.any k r]
  split
  · exact PDT.tJ k rd r
  · exact PDT.snoc ⟨rfl, rd⟩ r
theorem PDT.ext {α' : List Addr} {H' : Hp} {kvs : List (List Key × D)} {kws : List (List Key × V)} (e : Ext K α H α' H') (r : PDT K g α H kvs kws) : PDT K g α' H' kvs kws := Paired.CP e.toEx0 r
theorem PDT.length : ∀ {kvs : List (List Key × D)} {kws : List (List Key × V)}, PDT K g α H kvs kws -> kvs.length = kws.length
  | _, _, .nil => rfl
  | _ :: _, _ :: _, .cons _ rr => congrArg (· + 1) (PDT.length rr)
theorem aF.dit {Q : VK} {kvs : List (List Key × D)} {kws : List (List Key × V)} {p : Addr} (w : aF K g α H Q (.ref h.length) (h ++ [.dit kvs])) (r : aN K g α H h) (rs : PDT K g α H kvs kws) (hp : H p = none) : Q (.ref p) (upd H p (.dT kws)) := by
  have x := Ext.push (K := K) (α := α) (o := .dT kws) hp
  exact w _ _ _ x (r.push hp ⟨_, aR, rs.ext x⟩) (.ref (by rw [<- r.len]; simp))
end
noncomputable def kQ : List D -> Option (List Key)
  | [] => some []
  | d :: ds => match BB d, kQ ds with
    | some k, some ks => some (k :: ks)
    | _, _ => none
noncomputable def qU : D -> Option (List Key)
  | .tup ds => kQ ds
  | _ => none
theorem tu {K : PySem.W.Frag} {g : GG} {α : List Addr} {H : Hp} : ∀ {ds : List D} {vs : List V} {ks : List Key}, ar K g α H ds vs -> kQ ds = some ks -> vs = ks.map kV
  | _, _, ks, .nil, e => by cases e; rfl
  | d :: ds, _, ks, .cons r rs, e => by
    unfold kQ at e
    cases e1 : BB d with
    | none => rw [e1] at e; cases e
    | some k =>
      cases e2 : kQ ds with
      | none => rw [e1, e2] at e; cases e
      | some ks' =>
        rw [e1, e2] at e
        cases e
        rw [Ar r e1, tu rs e2]; rfl
theorem si {K : PySem.W.Frag} {g : GG} {α : List Addr} {H : Hp} {d : D} {v : V} {k : List Key} (r : aB K g α H d v) (e : qU d = some k) : ∃ b, v = .ref b /\ H b = some (.tup (k.map kV)) := by
  cases r with
  | tup hp rs => exact ⟨_, rfl, by rw [hp, tu rs e]⟩
  | _ => cases e
noncomputable def nL : ME := fun _ h => .ok (.ref h.length) (h ++ [.dit []])
noncomputable def k4 : D -> D -> Hh -> R D := fun o i h => match o, qU i with
  | .ref n, some k => match cI h n with
    | some kvs => match pJ kvs k with
      | some d => .ok d h
      | none => .bad
    | none => .bad
  | _, _ => .bad
noncomputable def lC : D -> D -> D -> Hh -> R Unit := fun o i v h => match o, qU i with
  | .ref n, some k => match cI h n with
    | some kvs => if kvs.length < 1000000 then .ok () (h.set n (.dit (vK kvs k v))) else .bad
    | none => .bad
  | _, _ => .bad
section
variable {X : Cx} {g : GG} {ε : EE} {o i e f : Expr} {mo mi me mf : ME} {pos : Pos}
theorem yr : PE X (.Dict [] [] pos) (tM X.K g ε nL) :=
  PE.imp xx fun σ H Q ⟨α, env, h, s, w⟩ p hp => aF.dit (show aF X.K g α H Q _ _ from w) s.heap .nil hp
theorem yW (hu : X.A.units + 1 < cLine) (ho : PE X o (tM X.K g ε mo)) (hi : PE X i (tM X.K g ε mi)) (hs : Ba i) : PE X (.Subscript o i pos) (tM X.K g ε (ao k4 mo mi)) :=
  PE.imp (x_ hu ho hi hs) fun σ H Q ⟨α, env, h, s, w⟩ => tM.use s w.bind fun d1 h1 v1 H1 α1 e1 s1 r1 w1 => tM.use s1 (w1.ext e1).bind fun d2 h2 v2 H2 α2 e2 s2 r2 w2 => by
    unfold k4 at w2
    cases ek : qU d2 with
    | none => rw [ek] at w2; cases d1 <;> exact w2.elim
    | some k =>
      rw [ek] at w2
      cases (r1.ext e2) with
      | @ref n p hp =>
        simp only at w2
        cases ed : cI h2 n with
        | none => rw [ed] at w2; exact w2.elim
        | some kvs =>
          rw [ed] at w2
          obtain ⟨kws, hd, rs⟩ := s2.heap.dit ed hp
          obtain ⟨b', rfl, eb⟩ := si r2 ek
          simp only at w2
          rcases rs.val k with ⟨ev, _⟩ | ⟨d, v, ev, ew, rv⟩
          · rw [ev] at w2; exact w2.elim
          · rw [ev] at w2
            refine ⟨p, v, rfl, ?_, aF.now (aF.ext (e1.trans e2) (show aF X.K g α H Q d h2 from w2)) s2.heap rv⟩
            rw [<- ew]
            exact nX.t hd eb
      | _ => exact w2.elim
theorem z0 {p : Pos} (hu : X.A.units + 1 < cLine) (he : PE X e (tM X.K g ε me)) (ho : PE X o (tM X.K g ε mo)) (hi : PE X i (tM X.K g ε mi))
    (hs : swapsWith e (some (.Subscript o i p)) pos.line X.env = pure false := by rfl) : PS X (.Assign [.Subscript o i p] e pos) (tMS X.K g ε (e_ lC mo mi me)) :=
  PS.imp (xV hu ho hi he hs) fun E σ H ⟨α, env, h, s, w⟩ => tM.use s w.bind fun d1 h1 v1 H1 α1 e1 s1 r1 w1 => tM.use s1 (w1.ext e1).bind fun d2 h2 v2 H2 α2 e2 s2 r2 w2 => tM.use s2 (w2.ext e2).bind fun d3 h3 v3 H3 α3 e3 s3 r3 w3 => by
    have w4 := (w3.ext e3).bind
    unfold lC at w4
    cases ek : qU d3 with
    | none => rw [ek] at w4; cases d2 <;> exact w4.elim
    | some k =>
      rw [ek] at w4
      cases (r2.ext e3) with
      | @ref n p hp =>
        simp only at w4
        cases ed : cI h3 n with
        | none => rw [ed] at w4; exact w4.elim
        | some kvs =>
          rw [ed] at w4
          obtain ⟨hl, w4⟩ := WQ.eW w4
          obtain ⟨kws, hd, rs⟩ := s3.heap.dit ed hp
          obtain ⟨b', rfl, eb⟩ := si r3 ek
          refine ⟨p, _, rfl, vW.t hd eb (by rw [<- rs.length, sizeLine_eq]; omega), ?_⟩
          have x := Ext.write (o := .dT (putK kws k v1)) s3.heap hp
          have ra := (r1.ext e2).ext e3
          exact (show bP X.K g α H E (.nx env) _ from w4) _ _ (e1.trans (e2.trans (e3.trans x))) (s3.heap.write hp ⟨_, aR, (rs.put k ra).ext x⟩) _ (s3.vs.ext x)
      | _ => exact w4.elim
end
end L2.FE
namespace L2
open PySem PySem.Spec PyProof.Rows
section
variable {prog : Program} {w : World} {A : Around} {R : Result -> Shared -> Prop} {s : Shared} {elt tg iter tg2 iter2 : Expr} {scope : Scope} {pos : Pos} {it acc : Value} {env : Env}
noncomputable abbrev e2 (elt tg iter tg2 iter2 : Expr) (scope : Scope) (pos : Pos) : Expr := .ListComp elt [⟨tg, iter, [], 0⟩, ⟨tg2, iter2, [], 0⟩] scope pos
end
end L2
namespace L2.FE
open PySem PySem.Spec PyProof.Rows
variable {X : Cx} {g : GG}
theorem zw {K : PySem.W.Frag} {ε : EE} {mi : MI} {ix : List Nat} {tt : TT} {te : TE} {σ : St} {H : Hp} {Q : VK} (t : zB (tMI K g ε mi) ix tt te σ H Q) : pv (tMI K g ε mi) 1 ix (fw 0) tt te σ H Q := by
  obtain ⟨α, env, h, s, w⟩ := t
  refine ⟨α, env, h, s, w.mono fun sr h1 _ z J H' α' e hr rd acc ha => ?_⟩
  obtain ⟨W, w0, st⟩ := z J H' α' e hr rd acc ha
  refine ⟨W, w0, fun i m ys H1 hw => (st i m ys H1 hw).imp id fun ⟨a, b⟩ => ⟨a, fun σ0 x H2 hc hy => ?_⟩⟩
  obtain ⟨ts, tl, rfl⟩ := hc
  match ts, tl with
  | [t0], _ => exact ⟨⟨[some x], rfl, rfl⟩, b x H2 hy⟩
theorem l_ {nl : NL} [gq nl] {elt iter : Expr} {x : Str} {px : Pos} {ifs : List Expr} {scope osc : Scope} {pos : Pos} {mi : MI} {tt : MT} {te : ME} (ix : List Nat) (N' : List Str)
    (hxe : X.xe = fun _ _ => False) (hc : X.calm = true) (ho : X.env.scope = osc) (hN : N' = x :: ix.map fun i => (X.N[i]?).getD ("" : Str)) (hnd : N'.Nodup)
    (hall : (∀ y ∈ scope.names, y.2 = .free -> osc.names.lookup y.1 = some .cell) /\ (∀ y ∈ scope.names, y.2 ≠ .cell) /\ scope.kind = .function /\ (∀ y ∈ scope.names, y.2 = .local -> scope.names.lookup y.1 = some .local) /\ scope.names.lookup x = some .local /\ (∀ y ∈ N'.tail, scope.names.lookup y = some .free))
    (hi : PI X (.Name x px) iter (tMI X.K g E00 mi))
    (ht : ∀ cl C aH aQ fp, PTs (bV X scope cl C aH aQ fp N') ifs (tMT X.K g E00 tt))
    (he : ∀ cl C aH aQ fp, PE (bV X scope cl C aH aQ fp N') elt (tM X.K g E00 te))
    (hs : ∀ x, foldedSetIterable iter X.env x = pure x := by intro _; rfl) :
    PE X (.ListComp elt [⟨.Name x px, iter, ifs, 0⟩] scope pos) (tM X.K g E00 (dk nl mi ix tt te)) := by
  refine PE.imp (PE.frz (qJ (tgr := fw 0) ix [x] N' hxe hc ho hN hnd ⟨hall.1, hall.2.1, hall.2.2.1, hall.2.2.2.1, fun y hy => hall.2.2.2.2.2 y (by rw [hN] at hy ⊢; exact hy)⟩ hi (fun cl C aH aQ fp => bz (X := bV X scope cl C aH aQ fp N') hnd (show N'[0]? = some x by rw [hN]; rfl) (.inl (lookup_relabel_local hall.2.2.2.2.1)) (.inr (lookup_relabel_local hall.2.2.2.2.1))) ht he hs)) fun σ H Q t => ?_
  exact zw (wa (fun _ _ z => z) t)
end L2.FE
namespace L2
open PySem PySem.Spec PyProof.Rows
noncomputable def kd (h : Heap) (d : Addr) (es : Array DictEntry) (ep : Nat) : Prop := ∃ q, h.get? d = some q /\ q.ExactDict /\ q.data = .dict es ep
section
variable {prog : Program} {w : World} {A : Around} {E : Value -> Shared -> Prop} {s : Shared} {it d : Addr} {i ep : Nat} {es : Array DictEntry}
theorem kd.typeIs (x : kd s.heap d es ep) : s.TypeIs (.ref d) "dict" := let ⟨q, a, b, _⟩ := x; ⟨q, a, b.1⟩
theorem kd.keep {h h' : Heap} (x : kd h d es ep) (k : ∀ q, h.get? d = some q -> h'.get? d = some q) : kd h' d es ep := let ⟨q, a, b⟩ := x; ⟨q, k q a, b⟩
theorem kd.lt {h : Heap} (x : kd h d es ep) : d < h.objs.size := let ⟨_, a, _⟩ := x; Heap.lt_size a
theorem u7 {Q : Value -> Shared -> Prop} (lo : (d == sysModules) = false) (x : kd s.heap d es ep)
    (hQ : Q (.ref s.heap.objs.size) { s with heap := s.heap.push { cls := .type "dict_keyiterator", data := .fields #[.ref d, .int 0 0, .int es.size 0, .int ep 0] } }) : wpAny (model prog w) A (pyIter (.ref d)) Q E s := by
  obtain ⟨q, a, _, c⟩ := id x
  have T := x.typeIs
  refine wpAny_pyIter_slot T F.slot_dict_iter (wpAny_call_entry F.slot_dict_iter T F.entry_dict_iter (by
    unfold Builtin.«dict.__iter__»; refine wpAny_bind ?_; unfold Builtin.Dict.dictSlotNone
    refine wpAny_bind (wpAny_notOrdered_dict T ?_); show wpAny _ _ (pure (Value.ref d)) _ _ s; refine wpAny_pure ?_
    show wpAny _ _ (Builtin.Dict.showsAll d >>= _) _ _ s; unfold Builtin.Dict.showsAll; rw [if_neg (by rw [lo]; exact Bool.false_ne_true)]
    refine wpAny_bind (wpAny_pure (wpAny_bind (wpAny_dictEntries a c (wpAny_bind (wpAny_dictEpoch a c (wpAny_bind (wpAny_newObj_type (wpAny_pure ⟨_, rfl, "dict_keyiterator", _, ⟨_, Heap.get?_push_size _ rfl, rfl⟩, F.slot_dict_keyiterator_next.lookup, ?_⟩))))))))
    simpa [rawInt] using hQ) (F.args_dict_iter_1 _))
theorem vv {Q : Option Value -> Shared -> Prop} (hi : s.heap.IsKeyIter it d i es.size ep) (x : kd s.heap d es ep) (lt : i < es.size)
    (hQ : ∀ h', h'.IsKeyIter it d (i + 1) es.size ep -> Heap.SameBut it s.heap h' -> Q (some es[i].key) { s with heap := h' }) : wpAny (model prog w) A (pyNext (.ref it)) Q E s := by
  obtain ⟨p, p1, p2, p3⟩ := id hi
  obtain ⟨q, a, _, c⟩ := id x
  have own : Builtin.Dict_items.ownsTuple "dict_keyiterator" = false := by decide
  unfold pyNext
  refine wpAny_bind (wpAny_attempt (wpAny_callSpecial?_slot (name := Str.ofString "__next__") hi.typeIs F.slot_dict_keyiterator_next (wpAny_call_entry F.slot_dict_keyiterator_next hi.typeIs F.entry_dict_keyiterator_next ?_ (F.args_dict_keyiterator_next_1 _))))
  refine wpAny_bind (wpAny_pure (wpAny_bind (wpAny_bind ?_)))
  first | refine wpAny_bind (wpAny_typeNameOfWhole_keyiter hi.typeIs (wpAny_pure (wpAny_bind (wpAny_fieldsOf p1 p3 ?_)))) | refine wpAny_bind (wpAny_typeNameOf_keyiter hi.typeIs (wpAny_pure (wpAny_bind (wpAny_fieldsOf p1 p3 ?_))))
  simp only [own, Bool.false_eq_true, if_false]; show wpAny _ _ (if (Value.ref d == Value.none) = true then _ else _) _ _ s
  rw [if_neg (show ¬ ((Value.ref d == Value.none) = true) from Bool.false_ne_true)]; refine wpAny_bind (wpAny_pure (wpAny_bind (wpAny_dictEntries a c ?_)))
  rw [if_neg (by simp)]; refine wpAny_bind (wpAny_pure (wpAny_bind (wpAny_dictEpoch a c ?_))); rw [if_neg (by simp)]; refine wpAny_pure ?_
  simp only [show ¬ ((i : Int) < 0) from by omega, if_false, Int.toNat_natCast, Array.getElem?_eq_getElem lt]; refine wpAny_bind ?_
  first | refine wpAny_bind (wpAny_typeNameOfWhole_keyiter hi.typeIs (wpAny_pure (wpAny_bind (wpAny_isOneOf_keyiter hi.typeIs ?_)))) | refine wpAny_bind (wpAny_typeNameOf_keyiter hi.typeIs (wpAny_pure (wpAny_bind (wpAny_isOneOf_keyiter hi.typeIs ?_))))
  show wpAny _ _ (setField (.ref it) 1 (rawInt ((i : Int) + 1)) >>= _) _ _ s; refine wpAny_bind (wpAny_setField p1 p3 (by simp) ?_)
  have hi' : (s.heap.update it (Obj.mapFields (·.setIfInBounds 1 (rawInt ((i : Int) + 1))))).IsKeyIter it d (i + 1) es.size ep := ⟨_, Heap.get?_update_self _ p1 (Obj.isFreed_of_fields (Obj.data_mapFields p3 _)), (Obj.cls_mapFields ..).trans p2, by rw [Obj.data_mapFields p3]; simp [rawInt]⟩
  refine wpAny_bind (wpAny_holding (wpAny_bind (wpAny_isOneOf_keyiter (s := { s with heap := s.heap.update it (Obj.mapFields (·.setIfInBounds 1 (rawInt ((i : Int) + 1)))) }) hi'.typeIs ?_)))
  show wpAny _ _ (pure es[i].key) _ _ _; exact wpAny_pure (wpAny_pure ⟨_, rfl, wpAny_pure (hQ _ hi' (Heap.SameBut.update ..))⟩)
theorem yc {Q : Option Value -> Shared -> Prop} (hh : A.handled = none) (hi : s.heap.IsKeyIter it d i es.size ep) (x : kd s.heap d es ep) (ge : es.size <= i)
    (hQ : ∀ h', Heap.ExtBut it s.heap h' -> Q none { s with heap := h' }) : wpAny (model prog w) A (pyNext (.ref it)) Q E s := by
  obtain ⟨p, p1, p2, p3⟩ := id hi
  obtain ⟨q, a, _, c⟩ := id x
  have own : Builtin.Dict_items.ownsTuple "dict_keyiterator" = false := by decide
  unfold pyNext
  refine wpAny_bind (wpAny_attempt (wpAny_callSpecial?_slot (name := Str.ofString "__next__") hi.typeIs F.slot_dict_keyiterator_next (wpAny_call_entry F.slot_dict_keyiterator_next hi.typeIs F.entry_dict_keyiterator_next ?_ (F.args_dict_keyiterator_next_1 _))))
  refine wpAny_bind (wpAny_pure (wpAny_bind (wpAny_bind ?_)))
  first | refine wpAny_bind (wpAny_typeNameOfWhole_keyiter hi.typeIs (wpAny_pure (wpAny_bind (wpAny_fieldsOf p1 p3 ?_)))) | refine wpAny_bind (wpAny_typeNameOf_keyiter hi.typeIs (wpAny_pure (wpAny_bind (wpAny_fieldsOf p1 p3 ?_))))
  simp only [own, Bool.false_eq_true, if_false]; show wpAny _ _ (if (Value.ref d == Value.none) = true then _ else _) _ _ s
  rw [if_neg (show ¬ ((Value.ref d == Value.none) = true) from Bool.false_ne_true)]; refine wpAny_bind (wpAny_pure (wpAny_bind (wpAny_dictEntries a c ?_)))
  rw [if_neg (by simp)]; refine wpAny_bind (wpAny_pure (wpAny_bind (wpAny_dictEpoch a c ?_))); rw [if_neg (by simp)]; refine wpAny_pure ?_
  simp only [show ¬ ((i : Int) < 0) from by omega, if_false, Int.toNat_natCast, Array.getElem?_eq_none ge]; refine wpAny_bind ?_
  first | refine wpAny_bind (wpAny_typeNameOfWhole_keyiter hi.typeIs (wpAny_pure ?_)) | refine wpAny_bind (wpAny_typeNameOf_keyiter hi.typeIs (wpAny_pure ?_))
  show wpAny _ _ (setField (.ref it) 0 .none >>= _) _ _ s; refine wpAny_bind (wpAny_setField p1 p3 (by simp) ?_)
  show wpAny _ _ (newExc (.type "StopIteration") [] >>= _) _ _ _; refine wpAny_bind ?_; simp only [newExc, newTuple]
  refine wpAny_bind (wpAny_newObj_type (wpAny_bind (m := firstArgMember _ _) (wpAny_of_eq (a := Value.none) (by first | rfl | (simp only [firstArgMember]; rfl)) (wpAny_newObj_type ?_ (by size_fits)))) (by size_fits))
  simp only [raiseNew]; refine wpAny_bind (wpAny_handled ?_); rw [show A.in1.handled = none from hh]
  refine wpAny_bind (wpAny_pure (wpAny_throw ?_)); refine wpAny_bind (wpAny_isInstance (T := "StopIteration") (b := true) ⟨_, Heap.get?_push_size _ rfl, rfl⟩ isSubtype_stop ?_)
  exact wpAny_pure (hQ _ (((Heap.SameBut.update ..).extBut.push _).push _))
theorem ug (hh : A.handled = none) (I : Addr) (ne : d ≠ I) : Walks prog w A I [I, d] [I] es.size (fun j v => ∃ e, es[j]? = some e /\ v = e.key) (fun j h => h.IsKeyIter I d j es.size ep /\ kd h d es ep) where
  sub := fun b hb => by simp at hb; simp [hb]
  frame := fun _ _ _ st hk => ⟨st.1.at fun o e => hk I (by simp) o e, st.2.keep fun o e => hk d (by simp) o e⟩
  item := fun j s Q E hj st hQ => vv st.1 st.2 hj fun h' a b => hQ _ h' s.toks ⟨_, Array.getElem?_eq_getElem hj, rfl⟩ ⟨a, st.2.keep fun o e => b.extBut d o ne e⟩ fun c o hc e => b.extBut c o (fun z => hc (by simp [z])) e
  done := fun s Q E st hQ => yc hh st.1 st.2 (Nat.le_refl _) fun h' a => hQ h' s.toks fun c o hc e => a c o (fun z => hc (by simp [z])) e
  self := fun _ _ _ _ st hQ => wpAny_pyIter_keyiter st.1 hQ
theorem yk (lo : (d == sysModules) = false) : PySem.W.KdlSrc prog w "dict" d d es.size (fun j v => ∃ e, es[j]? = some e /\ v = e.key) (fun h => kd h d es ep) where
  type := fun _ x => x.typeIs
  there := fun _ x => ⟨x.lt, x.lt⟩
  keep := fun _ _ x k => x.keep fun o e => k d (.inl rfl) o e
  notList := by decide
  notTuple := by decide
  hint := fun _ _ _ _ x hq => PySem.W.kdl_hint_dict x.typeIs hq
  iter := fun _ _ hh x => ⟨_, _, (fun _ _ hq => u7 lo x hq), ug hh _ (Nat.ne_of_lt x.lt), ⟨⟨_, Heap.get?_push_size _ rfl, rfl, rfl⟩, x.keep fun o e => Heap.get?_push_of_some _ e⟩⟩
end
theorem mW {X : Cx} (hc : X.calm = true) : bu X (.type "list") (fun xs H Q => ∃ p kvs, xs = [.ref p] /\ H p = some (.dT kvs) /\ ∀ l bs, H l = none -> Paired (fun (kv : List Key × V) b => H b = some (.tup (kv.1.map kV))) kvs bs -> Q (.ref l) (upd H l (.lst (bs.map V.ref)))) := by
  intro pins s σ H xs us Q I r h
  obtain ⟨p, kvs, rfl, hp, q⟩ := h
  obtain ⟨u, rfl, rx⟩ := vals1 r
  cases rx
  obtain ⟨z, lo, ws, rel, ob, es, ep, h1, h2, h3, h4, h5⟩ := I.hok p _ hp
  have sz : es.size = ws.length := by rw [<- Array.length_toList, h4, List.length_map]
  have zz : kvs.length = ws.length := rel.length
  refine PySem.W.kdl_call (yk (es := es) (ep := ep) lo) (I.ok.hd hc) ⟨ob, h1, h2, h3⟩ (by rw [sz, <- zz]; exact z) fun h' tk acc c kp e hi => ?_
  have pb : Paired (fun (kv : List Key × V) b => H b = some (.tup (kv.1.map kV))) kvs (ws.map fun x => x.2.1) := by
    clear hi h5 h4 zz sz z q hp
    induction rel with
    | nil => exact .nil
    | cons a _ ih => exact .cons a.2.1 ih
  refine ⟨.ref s.heap.objs.size, _, I.laid (t' := tk) kp (Nat.le_refl _) (show bc X.prog X.w _ h' _ (.lst _) from ⟨?_, acc.toList, c, ?_, by simpa using e⟩), rfl, q _ _ (I.hok.fresh (Nat.le_refl _)) pb⟩
  · rw [List.length_map, List.length_map, <- zz]; exact z
  · refine FE.p7 _ _ (by rw [Array.length_toList, hi.1, List.length_map, List.length_map, sz]) fun j u hj => ?_
    obtain ⟨en, e1, e2⟩ := hi.2 j u (by rw [<- Array.getElem?_toList]; exact hj)
    rw [<- Array.getElem?_toList, h4, List.getElem?_map] at e1
    cases ej : ws[j]? with
    | none => rw [ej] at e1; cases e1
    | some y =>
      rw [ej] at e1
      cases e1
      refine ⟨.ref y.2.1, by rw [List.getElem?_map, List.getElem?_map, ej]; rfl, ?_⟩
      rw [e2]; rfl
end L2
namespace L2.FE
open PySem PySem.Spec PyProof.Rows
noncomputable def unK : Key -> D
  | .inl i => .int i
  | .inr x => .str x
noncomputable def tupK (k : List Key) : D := .tup (k.map unK)
noncomputable def g6 (nl : NL) : List D -> Hh -> R D := fun ds h => match ds with
  | [.ref n] => match cI h n with
    | some kvs => nl (kvs.map fun kv => tupK kv.1) h
    | none => .bad
  | _ => .bad
theorem pz {K : PySem.W.Frag} {g : GG} {α : List Addr} {H : Hp} : ∀ k : List Key, ar K g α H (k.map unK) (k.map kV)
  | [] => .nil
  | .inl i :: r => .cons (.int i) (pz r)
  | .inr x :: r => .cons (.str x) (pz r)
theorem qX {K : PySem.W.Frag} {g : GG} {α : List Addr} {H : Hp} : ∀ {kvs : List (List Key × D)} {kws : List (List Key × V)} {bs : List Addr}, PDT K g α H kvs kws -> Paired (fun (kv : List Key × V) b => H b = some (.tup (kv.1.map kV))) kws bs -> ar K g α H (kvs.map fun kv => tupK kv.1) (bs.map V.ref)
  | _, _, _, .nil, .nil => .nil
  | _, _, _, .cons c r, .cons a t => .cons (.tup a (by rw [c.1]; exact pz _)) (qX r t)
theorem wo {K : PySem.W.Frag} {g : GG} {ε : EE} {nl : NL} [gq nl] : kj K g ε (g6 nl) (fun xs H Q => ∃ p kvs, xs = [.ref p] /\ H p = some (.dT kvs) /\ ∀ l bs, H l = none -> Paired (fun (kv : List Key × V) b => H b = some (.tup (kv.1.map kV))) kvs bs -> fW Q (.ref l) (upd H l (.lst (bs.map V.ref)))) := by
  intro α H h a x Q r ra w
  obtain ⟨d, v, rfl, rfl, rd⟩ := jF (f := g6 nl) (fun d _ _ _ => by cases d <;> rfl) (fun _ => rfl) ra w
  unfold g6 at w
  cases rd with
  | @ref n p hp =>
    simp only at w
    cases e : cI h n with
    | none => rw [e] at w; exact w.elim
    | some kvs =>
      rw [e] at w
      obtain ⟨kws, hd, rs⟩ := r.dit e hp
      exact ⟨p, kws, rfl, hd, fun l bs hl pb => NL.post w r (qX rs pb) hl⟩
  | _ => exact w.elim
noncomputable def oJ : D -> D -> D -> Hh -> R D := fun o i x h => match o, qU i with
  | .ref n, some k => match cI h n with
    | some kvs => .ok ((pJ kvs k).getD x) h
    | none => .bad
  | _, _ => .bad
noncomputable def jM (mo mi mx : ME) : ME := fun env h => (mo env h).bind fun o h1 => match o with
  | .ref n => match cI h1 n with
    | some _ => (mi env h1).bind fun i h2 => (mx env h2).bind fun x h3 => oJ o i x h3
    | none => .bad
  | _ => .bad
section
variable {X : Cx} {g : GG} {ε : EE} {o e f : Expr} {mo me mf : ME} {apos cpos : Pos}
theorem wJ (hu : X.A.units + 1 < cLine) (ho : PE X o (tM X.K g ε mo)) (he : PE X e (tM X.K g ε me)) (hf : PE X f (tM X.K g ε mf)) (m : M2 X o "get" apos e f cpos) : PE X (.Call (.Attribute o "get" apos) [e, f] [] cpos) (tM X.K g ε (jM mo me mf)) :=
  PE.imp (xi hu ho he hf m) fun σ H Q ⟨α, env, h, s, w⟩ => tM.use s w.bind fun d1 h1 v1 H1 α1 e1 s1 r1 w1 => by
    cases r1 with
    | @ref n p hp =>
      simp only at w1
      cases ed : cI h1 n with
      | none => rw [ed] at w1; exact w1.elim
      | some kvs0 =>
        rw [ed] at w1
        obtain ⟨kws0, hd0, _⟩ := s1.heap.dit ed hp
        refine ⟨p, rfl, .inr ⟨kws0, .inl hd0⟩, ?_⟩
        refine tM.use s1 (w1.ext e1).bind fun d2 h2 v2 H2 α2 e2 s2 r2 w2 => tM.use s2 (w2.ext e2).bind fun d3 h3 v3 H3 α3 e3 s3 r3 w3 => ?_
        unfold oJ at w3
        cases ek : qU d2 with
        | none => rw [ek] at w3; exact w3.elim
        | some k =>
          rw [ek] at w3
          simp only at w3
          cases ed3 : cI h3 n with
          | none => rw [ed3] at w3; exact w3.elim
          | some kvs =>
            rw [ed3] at w3
            have hp3 : α3[n]? = some p := (e2.trans e3).toEx0.get hp
            obtain ⟨kws, hd, rs⟩ := s3.heap.dit ed3 hp3
            obtain ⟨b', rfl, eb⟩ := si (r2.ext e3) ek
            refine ⟨i3 kws k, nX.t hd eb, ?_⟩
            have pp := aF.ext (e1.trans (e2.trans e3)) (show aF X.K g α H Q _ h3 from w3)
            rcases rs.val k with ⟨ev, ew⟩ | ⟨d, v, ev, ew, rv⟩
            · rw [ev] at pp; rw [ew]; exact aF.now pp s3.heap r3
            · rw [ev] at pp; rw [ew]; exact aF.now pp s3.heap rv
    | _ => exact w1.elim
end
end L2.FE
namespace FC
open PySem L2 L2.FE
noncomputable def bj : MF := cm 2 (aG (cQ (aO asB (ao dLt (af 1) (aj bZ (ae (af 0) aq)))) (bw (ao dIx (af 0) (af 1))) bI)
    (bw (cC (.int 0))))
noncomputable def bE : MF := cm 2 (aG (bL 1 (aj vS (ae (af 0) (ae (ao cS (cC (.int 0)) (af 0)) aq))))
    (bw (aj (eO lJ) (ae (af 1) (ae (aj v7 (ae (ao dGe (af 1) (ao zp (cC (.int 10)) (cC (.int 18)))) aq)) (ae (ao qf (af 1) (cC (.int 1000003))) aq))))))
noncomputable def cE : MF := cm 1 (aG (bL 0 (ao qf (ao (bb aD) (af 0) (cC (.int 7919))) (cC (.int 2147483647))))
    (bw (ao qf (ao (bb aD) (ao (bb aD) (ao (dM aD) (af 0) (af 0)) (ao (dM aD) (cC (.int 48271)) (af 0))) (cC (.int 12345))) (cC (.int 2147483629)))))
noncomputable def aS : MF := cm 3 (aG (cQ (ny (aO asB (ao dEq (ao dIx (af 0) (cC (.int 1))) (cC (.int 1)))) (aO asB (ao dGt (ao dIx (af 0) (cC (.int 0))) (cC (.int 0))))) (aG (bL 2 (ao qf (ao dIx (af 0) (cC (.int 0))) (af 1)))
    (aG (e_ dF (af 0) (cC (.int 0)) (ao r_ (ao dIx (af 0) (cC (.int 0))) (af 1)))
    (bw (af 2)))) bI)
    (aG (e_ dF (af 0) (cC (.int 2)) (aj cE (ae (ao (bb aD) (aj cE (ae (ao dIx (af 0) (cC (.int 2))) aq)) (cC (.int 7))) aq)))
    (bw (ao qf (ao r_ (ao dIx (af 0) (cC (.int 2))) (cC (.int 64))) (af 1)))))
noncomputable def dZ : MF := cm 1 (bw (tm (cUn (mY "int") (af 0)) (vD (cUn (mY "bool") (af 0)))))
noncomputable def ba : MF := cm 3 (bw (tm (aj dZ (ae (af 0) aq)) (gO dLe dLe (af 1) (af 0) (af 2))))
noncomputable def bM : MF := cm 2 (aG (cQ (oM (dX (aO jI (cUn (mY "tuple") (af 0)))) (dX (aO asB (gO dLe dLe (cC (.int 1)) (aj bZ (ae (af 0) aq)) (cC (.int 12)))))) rg bI)
    (cR (cF (af 0)) (gN 1) (cQ (dX (aO jI (aj ba (ae (af 1) (ae (cC (.int 0)) (ae (cC (.int 1000000)) aq)))))) rg bI)))
noncomputable def bW : MF := cm 2 (aG (dI (aj bM (ae (af 0) aq)))
    (aG (bL 1 (aj (g_ aD) (ae (dk aD (l9 (af 0)) [] (unp tt1) (unp (aj kz (ae (af 1) (ae (af 0) aq))))) aq)))
    (bw (aj kz (ae (aj eL (ae (dk aD (cF (af 1)) [] (unp tt1) (unp (af 1))) aq)) (ae (aj eL (ae (dk aD (cF (af 1)) [] (unp tt1) (unp (af 0))) aq)) aq))))))
noncomputable def cH : MF := fun ds h => ((cm 2 (aG (cQ (oM (dX (aO jI (cUn (mY "tuple") (af 0)))) (dX (aO asB (gO dLe dLe (cC (.int 1)) (aj bZ (ae (af 0) aq)) (cC (.int 20)))))) (bw (cC (.bl false))) bI)
    (aG (cR (cF (af 0)) (gN 1) (cQ (dX (aO jI (aj ba (ae (af 1) (ae (cC (.int 0)) (ae (ao cS (aj bZ (ae (af 0) aq)) (cC (.int 1))) aq)))))) (bw (cC (.bl false))) bI))
    (bw (ao dEq (aj bZ (ae (aj t9 (ae (af 0) aq)) aq)) (aj bZ (ae (af 0) aq))))))) ds h).bind (il h)
noncomputable def bt : MF := cm 1 (cQ (dX (aO jI (aj cH (ae (af 0) aq)))) rg bI)
noncomputable def bU : MF := cm 1 (bw (aj eL (ae (dk aD (jv gx (ae (ao cS (aj bZ (ae (af 0) aq)) (cC (.int 1))) aq)) [0] (aO asB (ao dGt (ao dIx (af 1) (af 0)) (ao dIx (af 1) (ao (bb aD) (af 0) (cC (.int 1)))))) (af 0)) aq)))
noncomputable def eG : MF := cm 5 (aG (bL 2 (aj bU (ae (af 0) aq)))
    (aG (cR (jv gx (ae (ao cS (aj bZ (ae (af 1) aq)) (cC (.int 1))) aq)) (gN 3) (aG (bL 4 (cIf (aO asB (ao (dIn false) (af 3) (af 2))) (ao (bb aD) (ao dIx (af 1) (af 3)) (cC (.int 1))) (ao dIx (af 1) (af 3))))
    (cQ (aO asB (ao dLt (ao dIx (af 1) (ao (bb aD) (af 3) (cC (.int 1)))) (af 4))) (bw (cC (.bl false))) bI)))
    (bw (cC (.bl true)))))
noncomputable def cD : MF := fun ds h => ((cm 5 (aG (dI (aj bt (ae (af 0) aq)))
    (aG (dI (aj bM (ae (af 1) aq)))
    (aG (cQ (oM (aO asB (ao dNe (aj bZ (ae (af 1) aq)) (aj bZ (ae (af 0) aq)))) (dX (aO jI (aj eG (ae (af 0) (ae (af 1) aq)))))) rg bI)
    (aG (bL 2 (ao (dM lJ) (aj (eO aD) (ae (cC (.int 0)) aq)) (aj bZ (ae (af 0) aq))))
    (aG (cR (wR (ae (af 0) (ae (af 1) aq))) (gT2 3 4) (e_ dF (af 2) (af 3) (af 4)))
    (bw (aj eL (ae (af 2) aq))))))))) ds h).bind (il h)
noncomputable def er : MF := cm 1 (aG (dI (aj bt (ae (af 0) aq)))
    (bw (aj bU (ae (af 0) aq))))
noncomputable def a8 : MF := cm 1 (bw (aj bZ (ae (aj er (ae (af 0) aq)) aq)))
noncomputable def aK : MF := cm 3 (cQ (dX (aO jI (aj ba (ae (af 0) (ae (af 1) (ae (af 2) aq)))))) rg bI)
noncomputable def br : MF := cm 4 (aG (bL 2 (cC (.int 1)))
    (aG (cR (jv gx (ae (af 1) aq)) (gN 3) (bL 2 (ao r_ (ao (dM aD) (af 2) (ao cS (af 0) (af 3))) (ao (bb aD) (af 3) (cC (.int 1))))))
    (bw (af 2))))
noncomputable def fG : MF := cm 2 (aG (dI (aj aK (ae (af 0) (ae (cC (.int 0)) (ae (cC (.int 1000000)) aq)))))
    (aG (dI (aj aK (ae (af 1) (ae (cC (.int 0)) (ae (cC (.int 30)) aq)))))
    (bw (aj br (ae (af 0) (ae (af 1) aq))))))
noncomputable def bF : MF := cm 2 (aG (dI (aj aK (ae (af 0) (ae (cC (.int 0)) (ae (cC (.int 1000000)) aq)))))
    (dI (aj aK (ae (af 1) (ae (cC (.int 1)) (ae (cC (.int 20)) aq))))))
noncomputable def b8 : MF := cm 3 (aG (bL 1 (ao (bb aD) (aj bZ (ae (af 0) aq)) (cC (.int 1))))
    (aG (bL 2 (ao (bb aD) (ao (bb aD) (aj (eO aD) (ae (cC (.int 0)) aq)) (af 0)) (aj (eO aD) (ae (cC (.int 0)) aq))))
    (bw (dk aD (jv gx (ae (af 1) aq)) [2, 1] tt1 (ao (bb aD) (ao (dM aD) (ao (bb aD) (af 0) (cC (.int 1))) (ao dIx (af 1) (ao (bb aD) (af 0) (cC (.int 1))))) (ao (dM aD) (ao cS (af 2) (af 0)) (ao dIx (af 1) (af 0))))))))
noncomputable def dW : MF := cm 2 (aG (dI (aj aK (ae (af 0) (ae (cC (.int 1)) (ae (cC (.int 30)) aq)))))
    (aG (bL 1 (aj (eO aD) (ae (cC (.int 1)) aq)))
    (aG (rq 64 (aO asB (ao dLt (aj bZ (ae (af 1) aq)) (af 0))) (bL 1 (aj b8 (ae (af 1) aq))))
    (bw (af 1)))))
noncomputable def bG : MF := cm 2 (aG (dI (aj bF (ae (af 0) (ae (af 1) aq))))
    (bw (dk aD (l9 (aj dW (ae (af 1) aq))) [0, 1] (unp tt1) (unp (ao (dM aD) (af 1) (aj br (ae (ao (bb aD) (af 2) (af 0)) (ae (af 3) aq))))))))
noncomputable def bO : MF := cm 4 (aG (bL 2 (cC (.int 1)))
    (aG (cR (jv gx (ae (af 1) aq)) (gN 3) (bL 2 (ao (dM aD) (af 2) (af 0))))
    (bw (af 2))))
noncomputable def dj : MF := cm 2 (aG (dI (aj bF (ae (af 0) (ae (af 1) aq))))
    (bw (dk aD (l9 (aj dW (ae (af 1) aq))) [0, 1] (unp tt1) (unp (ao (dM aD) (af 1) (aj br (ae (ao (bb aD) (ao (bb aD) (af 2) (af 0)) (cC (.int 1))) (ae (ao (bb aD) (af 3) (cC (.int 1))) aq))))))))
noncomputable def aZ : MF := cm 2 (bw (aj t8 (ae (aj dj (ae (af 0) (ae (af 1) aq))) aq)))
noncomputable def lB : MF := fun ds h => ((cm 13 (aG (cR (cF (ao (bb aD) (aj (eO aD) (ae (aj bj (ae (af 0) (ae (cC (.int 0)) aq))) aq)) (pj aD (af 0) (nD (cC (.int 1))) (nD (cC (.int 4)))))) (gN 1) (aG (bL 2 (aj bE (ae (af 1) aq)))
    (aG (bL 3 (ao (bb aD) (cC (.int 1)) (aj aS (ae (af 2) (ae (cC (.int 4)) aq)))))
    (aG (bL 4 (aj aS (ae (af 2) (ae (ao dIx (aj (eO aD) (ae (cC (.int 8)) (ae (cC (.int 8)) (ae (cC (.int 7)) (ae (cC (.int 6)) aq))))) (ao cS (af 3) (cC (.int 1)))) aq))))
    (aG (bL 5 (aj (eO aD) (ae (aj kz aq) aq)))
    (aG (cR (jv gx (ae (af 3) aq)) (gN 6) (aG (bL 7 (aj (eO lJ) aq))
    (aG (cR (cF (af 5)) (gN 8) (dI (lg fJ (af 7) (ae (dk aD (jv gx (ae (af 4) aq)) [8] tt1 (ao (bb aD) (af 1) (aj kz (ae (af 0) aq)))) aq))))
    (bL 5 (af 7)))))
    (aG (sf 9 10 (ae nL (ae (ao (dM lJ) (aj (eO aD) (ae (cC (.int 0)) aq)) (af 3)) aq)))
    (aG (cR (cF (af 5)) (gN 8) (aG (vG 11 12 (aj bW (ae (af 8) aq)))
    (aG (cQ (aO asB (ao dNe (aj cD (ae (af 11) (ae (af 12) aq))) (af 8))) (bw (cC (.bl false))) bI)
    (aG (e_ lC (af 9) (af 11) (ao (bb aD) (jM (af 9) (af 11) (cC (.int 0))) (cC (.int 1))))
    (l5 (af 10) (aj a8 (ae (af 11) aq)) (cC (.int 1)))))))
    (aG (cR (cF (aj (g6 aD) (ae (af 9) aq))) (gN 11) (cQ (aO asB (ao dNe (ao k4 (af 9) (af 11)) (aj fG (ae (ao cS (ao cS (ao (bb aD) (af 4) (af 3)) (cC (.int 1))) (aj a8 (ae (af 11) aq))) (ae (af 3) aq))))) (bw (cC (.bl false))) bI))
    (aG (cQ (oM (aO asB (ao dNe (af 10) (cUn (nv aD) (aj bG (ae (af 4) (ae (af 3) aq)))))) (aO asB (ao dNe (aj bZ (ae (af 5) aq)) (aj bO (ae (af 4) (ae (af 3) aq)))))) (bw (cC (.bl false))) bI)
    (cQ (ny (aO asB (ao dGt (af 4) (cC (.int 0)))) (aO asB (ao dNe (ao cS (aj aZ (ae (af 4) (ae (af 3) aq))) (aj aZ (ae (ao cS (af 4) (cC (.int 1))) (ae (af 3) aq)))) (aj bZ (ae (af 5) aq))))) (bw (cC (.bl false))) bI)))))))))))
    (bw (cC (.bl true))))) ds h).bind (il h)
noncomputable def aI (i : Nat) : Stmt := PySem.Challenge.pw_fallcounts_k46_whole_powers.main.body.getD i (.Pass ⟨0, 0, 0, 0⟩)
structure Blt (mg : Str -> Option Value) : Prop where
  bool : mg "bool" = none
  enumerate : mg "enumerate" = none
  int : mg "int" = none
  isinstance : mg "isinstance" = none
  len : mg "len" = none
  list : mg "list" = none
  max : mg "max" = none
  range : mg "range" = none
  set : mg "set" = none
  sorted : mg "sorted" = none
  sum : mg "sum" = none
  tuple : mg "tuple" = none
  zip : mg "zip" = none
section
variable {P : Program} {w : World} {K : PySem.W.Frag} {mg : Str -> Option Value} {base : Heap} {g : GG}
theorem kA : aL ["_law_script", "_law_k"] ["_law_script", "_law_k"] (au (aI 36)) := ⟨rfl, rfl, rfl, by decide +kernel, rfl, by decide +kernel, by decide +kernel⟩
theorem jL (D : aJ K mg "_law_cell_at" (aI 36)) (T : Blt mg) : Has P w K mg base g "_law_cell_at" 1 ["_law_script", "_law_k"] bj := by
  obtain ⟨f, fd, hm, F⟩ := D
  refine ⟨f, fd, di F kA (fun cdv A outer s H E hr => ?_), F.kp, F.binds (fun _ _ _ _ _ _ us hl => kN hl fun _ _ => rfl), hm, aP F⟩
  exact (@aw _ _ _ _ _ _ _ (@jj _ _ _ _ _ _ _ _ _ _ (@cO _ _ _ _ _ _ _ _ _ _ _ vq xt (aa 1) (aT cc cb rfl T.len PySem.boot_len (@ah _ _ _ _ _ _ _ (aa 0) ak rfl)) (cA _)) (@aC _ _ _ _ _ (@bp _ _ _ _ _ _ (@eF _ _ _ _ _ _ _ _ _ _ cy dS (aa 0) (aa 1) (fun _ _ => rfl)))) bR)
      (@aC _ _ _ _ _ (@bp _ _ _ _ _ _ av)))
theorem gH : aL ["_law_cell", "_law_left"] ["_law_cell"] (au (aI 38)) := ⟨rfl, rfl, rfl, by decide +kernel, rfl, by decide +kernel, by decide +kernel⟩
theorem ky (D : aJ K mg "_law_pen_of" (aI 38)) (T : Blt mg) : Has P w K mg base g "_law_pen_of" 1 ["_law_cell"] bE := by
  obtain ⟨f, fd, hm, F⟩ := D
  refine ⟨f, fd, di F gH (fun cdv A outer s H E hr => ?_), F.kp, F.binds (fun _ _ _ _ _ _ us hl => jP hl fun _ => rfl), hm, aP F⟩
  exact (@aw _ _ _ _ _ _ _ (@cj _ _ _ _ _ _ 1 _ _ gH.nd rfl (by first | exact Or.inl rfl | exact Or.inr rfl) (aT (tK rfl) xY rfl T.max PyProof.Rows.boot_max (@ah _ _ _ _ _ _ _ (aa 0) (@ah _ _ _ _ _ _ _ (@ay _ _ _ _ _ _ _ _ _ _ _ ef eD av (aa 0)) ak rfl) rfl)) rfl (.inl rfl))
      (@aC _ _ _ _ _ (@bp _ _ _ _ _ _ (@fq _ _ _ _ _ _ _ _ (@ah _ _ _ _ _ _ _ (aa 1) (@ah _ _ _ _ _ _ _ (cZ t5 Ax rfl T.int PyProof.Rows.boot_int (@ah _ _ _ _ _ _ _ (@wg _ _ _ _ _ _ _ _ _ _ _ CM CO (aa 1) (@ay _ _ _ _ _ _ _ _ _ _ _ zq Ad av av) (cA _)) ak rfl)) (@ah _ _ _ _ _ _ _ (@ay _ _ _ _ _ _ _ _ _ _ _ lG kS (aa 1) av) ak rfl) rfl) rfl)))))
theorem jn : aL ["_law_seed"] ["_law_seed"] (au (aI 37)) := ⟨rfl, rfl, rfl, by decide +kernel, rfl, by decide +kernel, by decide +kernel⟩
theorem mO (D : aJ K mg "_law_next" (aI 37)) (T : Blt mg) : Has P w K mg base g "_law_next" 1 ["_law_seed"] cE := by
  obtain ⟨f, fd, hm, F⟩ := D
  refine ⟨f, fd, di F jn (fun cdv A outer s H E hr => ?_), F.kp, F.binds (fun _ _ _ _ _ _ us hl => jP hl fun _ => rfl), hm, aP F⟩
  exact (@aw _ _ _ _ _ _ _ (@cj _ _ _ _ _ _ 0 _ _ jn.nd rfl (by first | exact Or.inl rfl | exact Or.inr rfl) (@ay _ _ _ _ _ _ _ _ _ _ _ lG kS (@ay _ _ _ _ _ _ _ _ _ _ _ bq bo (aa 0) av) av) rfl (.inl rfl))
      (@aC _ _ _ _ _ (@bp _ _ _ _ _ _ (@ay _ _ _ _ _ _ _ _ _ _ _ lG kS (@ay _ _ _ _ _ _ _ _ _ _ _ bq bo (@ay _ _ _ _ _ _ _ _ _ _ _ bq bo (@ay _ _ _ _ _ _ _ _ _ _ _ fk fe (aa 0) (aa 0)) (@ay _ _ _ _ _ _ _ _ _ _ _ fk fe av (aa 0))) av) av))))
theorem jw : aL ["_law_pen", "_law_many", "_law_found"] ["_law_pen", "_law_many"] (au (aI 39)) := ⟨rfl, rfl, rfl, by decide +kernel, rfl, by decide +kernel, by decide +kernel⟩
theorem mQ (D : aJ K mg "_law_draw" (aI 39)) (T : Blt mg) (eV : Has P w K mg base g "_law_next" 1 ["_law_seed"] cE) : Has P w K mg base g "_law_draw" 2 ["_law_pen", "_law_many"] aS := by
  obtain ⟨f, fd, hm, F⟩ := D
  obtain ⟨xG, xo, iC, ic, ia, iy, _⟩ := eV
  refine ⟨f, fd, di F jw (fun cdv A outer s H E hr => ?_), F.kp, F.binds (fun _ _ _ _ _ _ us hl => kN hl fun _ _ => rfl), hm, aP F⟩
  exact (@aw _ _ _ _ _ _ _ (@jj _ _ _ _ _ _ _ _ _ _ (PW.pt (@vQ _ _ _ _ _ _ _ _ _ (@cO _ _ _ _ _ _ _ _ _ _ _ (wO hr.units) zJ (@eF _ _ _ _ _ _ _ _ _ _ cy dS (aa 0) av (fun _ _ => rfl)) av (cA _)) (@sx _ _ _ _ _ _ (@cO _ _ _ _ _ _ _ _ _ _ _ vB wy (@eF _ _ _ _ _ _ _ _ _ _ cy dS (aa 0) av (fun _ _ => rfl)) av (cA _))))) (@aw _ _ _ _ _ _ _ (@cj _ _ _ _ _ _ 2 _ _ jw.nd rfl (by first | exact Or.inl rfl | exact Or.inr rfl) (@ay _ _ _ _ _ _ _ _ _ _ _ lG kS (@eF _ _ _ _ _ _ _ _ _ _ cy dS (aa 0) av (fun _ _ => rfl)) (aa 1)) rfl (.inl rfl))
      (@aw _ _ _ _ _ _ _ (pF (@ay _ _ _ _ _ _ _ _ _ _ _ lF rm (@eF _ _ _ _ _ _ _ _ _ _ cy dS (aa 0) av (fun _ _ => rfl)) (aa 1)) (aa 0) av set_list jq)
      (@aC _ _ _ _ _ (@bp _ _ _ _ _ _ (aa 2))))) bR)
      (@aw _ _ _ _ _ _ _ (pF (az (iC.mono (by decide)) hr rfl iy ic ia (@ah _ _ _ _ _ _ _ (@ay _ _ _ _ _ _ _ _ _ _ _ bq bo (az (iC.mono (by decide)) hr rfl iy ic ia (@ah _ _ _ _ _ _ _ (@eF _ _ _ _ _ _ _ _ _ _ cy dS (aa 0) av (fun _ _ => rfl)) ak rfl) (ai aA)) av) ak rfl) (ai aA)) (aa 0) av set_list jq)
      (@aC _ _ _ _ _ (@bp _ _ _ _ _ _ (@ay _ _ _ _ _ _ _ _ _ _ _ lG kS (@ay _ _ _ _ _ _ _ _ _ _ _ lF rm (@eF _ _ _ _ _ _ _ _ _ _ cy dS (aa 0) av (fun _ _ => rfl)) av) (aa 1))))))
theorem qD : aL ["thing"] ["thing"] (au (aI 6)) := ⟨rfl, rfl, rfl, by decide +kernel, rfl, by decide +kernel, by decide +kernel⟩
theorem oK (D : aJ K mg "is_whole" (aI 6)) (T : Blt mg) : Has P w K mg base g "is_whole" 1 ["thing"] dZ := by
  obtain ⟨f, fd, hm, F⟩ := D
  refine ⟨f, fd, di F qD (fun cdv A outer s H E hr => ?_), F.kp, F.binds (fun _ _ _ _ _ _ us hl => jP hl fun _ => rfl), hm, aP F⟩
  exact (@aC _ _ _ _ _ (@bp _ _ _ _ _ _ (@wZ _ _ _ _ _ _ _ _ _ (oj (aa 0) rfl T.isinstance rfl T.int PyProof.Rows.boot_int) (@vM _ _ _ _ _ _ _ (@AS _ _ _ _ _ _ (oj (aa 0) rfl T.isinstance rfl T.bool PyProof.Rows.boot_bool))))))
theorem o8 : aL ["thing", "least", "most"] ["thing", "least", "most"] (au (aI 7)) := ⟨rfl, rfl, rfl, by decide +kernel, rfl, by decide +kernel, by decide +kernel⟩
theorem mU (D : aJ K mg "is_within" (aI 7)) (T : Blt mg) (fV : Has P w K mg base g "is_whole" 1 ["thing"] dZ) : Has P w K mg base g "is_within" 2 ["thing", "least", "most"] ba := by
  obtain ⟨f, fd, hm, F⟩ := D
  obtain ⟨zr, xF, oV, pO, oW, pU, _⟩ := fV
  refine ⟨f, fd, di F o8 (fun cdv A outer s H E hr => ?_), F.kp, F.binds (fun _ _ _ _ _ _ us hl => Ce hl fun _ _ _ => rfl), hm, aP F⟩
  exact (@aC _ _ _ _ _ (@bp _ _ _ _ _ _ (@wZ _ _ _ _ _ _ _ _ _ (az (oV.mono (by decide)) hr rfl pU pO oW (@ah _ _ _ _ _ _ _ (aa 0) ak rfl) (ai aA)) (@vM _ _ _ _ _ _ _ (xm nU nU nO nO (aa 1) (aa 0) (aa 2))))))
theorem ip : aL ["thing", "number"] ["thing"] (au (aI 34)) := ⟨rfl, rfl, rfl, by decide +kernel, rfl, by decide +kernel, by decide +kernel⟩
theorem lK (D : aJ K mg "row_needed" (aI 34)) (T : Blt mg) {cG : Tok} (bB : mg "MOST_BASE" = some (.int 1000000 cG)) {h_ : Tok} (e8 : mg "MOST_SORTED" = some (.int 12 h_)) (a9 : Has P w K mg base g "is_within" 2 ["thing", "least", "most"] ba) : Has P w K mg base g "row_needed" 3 ["thing"] bM := by
  obtain ⟨f, fd, hm, F⟩ := D
  obtain ⟨ib, gu, cw, cv, cu, cp, _⟩ := a9
  refine ⟨f, fd, di F ip (fun cdv A outer s H E hr => ?_), F.kp, F.binds (fun _ _ _ _ _ _ us hl => jP hl fun _ => rfl), hm, aP F⟩
  exact (@aw _ _ _ _ _ _ _ (@jj _ _ _ _ _ _ _ _ _ _ (PW.pt (@tE _ _ _ _ _ _ _ _ _ (@f6 _ _ _ _ _ _ (@eA _ _ _ _ _ _ iO (oj (aa 0) rfl T.isinstance rfl T.tuple PyProof.Rows.boot_tuple) (fun _ => rfl))) (@oI _ _ _ _ _ _ (@f6 _ _ _ _ _ _ (qr nU nU nO nO av (aT cc cb rfl T.len PySem.boot_len (@ah _ _ _ _ _ _ _ (aa 0) ak rfl)) (du rfl e8)))))) (@aC _ _ _ _ _ (PS.imp gX fun E σ H ⟨α, env, h, s, w⟩ => w.elim)) bR)
      (@aC _ _ _ _ _ (gL PassesOwn.never rfl (@gy _ _ _ _ _ _ (aa 0)) (bz (i := 1) ip.nd rfl (by first | exact Or.inl rfl | exact Or.inr rfl)) dg (@aC _ _ _ _ _ (@jj _ _ _ _ _ _ _ _ _ _ (@f6 _ _ _ _ _ _ (@eA _ _ _ _ _ _ iO (az (cw.mono (by decide)) hr rfl cp cv cu (@ah _ _ _ _ _ _ _ (aa 1) (@ah _ _ _ _ _ _ _ av (@ah _ _ _ _ _ _ _ (du rfl bB) ak rfl) rfl) rfl) (ai (ai (ai aA)))) (fun _ => rfl))) (@aC _ _ _ _ _ (PS.imp gX fun E σ H ⟨α, env, h, s, w⟩ => w.elim)) bR)))))
theorem i6 : aL ["row", "pairs"] ["row"] (au (aI 31)) := ⟨rfl, rfl, rfl, by decide +kernel, rfl, by decide +kernel, by decide +kernel⟩
theorem mR (D : aJ K mg "sorted_by" (aI 31)) (T : Blt mg) (bK : Has P w K mg base g "row_needed" 3 ["thing"] bM) : Has P w K mg base g "sorted_by" 4 ["row"] bW := by
  obtain ⟨f, fd, hm, F⟩ := D
  obtain ⟨mn, kf, eJ, dU, eC, dY, _⟩ := bK
  refine ⟨f, fd, di F i6 (fun cdv A outer s H E hr => ?_), F.kp, F.binds (fun _ _ _ _ _ _ us hl => jP hl fun _ => rfl), hm, aP F⟩
  exact (@aw _ _ _ _ _ _ _ (dE (az (eJ.mono (by decide)) hr rfl dY dU eC (@ah _ _ _ _ _ _ _ (aa 0) ak rfl) (ai aA)))
      (@aw _ _ _ _ _ _ _ (@cj _ _ _ _ _ _ 1 _ _ i6.nd rfl (by first | exact Or.inl rfl | exact Or.inr rfl) (aT (bu.or (bu.frz rO) (bu.frz rG)) wN rfl T.sorted PyProof.Rows.boot_sorted (@ah _ _ _ _ _ _ _ (gB (osc := au (aI 31)) [] ["place", "number"] rfl rfl rfl rfl (by decide +kernel) ⟨by decide +kernel, by decide +kernel, rfl, by decide +kernel, by decide +kernel⟩ (pH rfl T.enumerate (aa 0)) (fun cl C aH aQ fp => ⟨Or.inl rfl, rfl⟩) (fun cl C aH aQ fp => ⟨Or.inl rfl, rfl⟩)
        (fun cl C aH aQ fp => iP) (fun cl C aH aQ fp => (@pB _ _ _ _ _ _ _ (@ah _ _ _ _ _ _ _ (aa 1) (@ah _ _ _ _ _ _ _ (aa 0) ak rfl) rfl)))) ak rfl)) rfl (.inl rfl))
      (@aC _ _ _ _ _ (@bp _ _ _ _ _ _ (@pB _ _ _ _ _ _ _ (@ah _ _ _ _ _ _ _ (cZ df jt rfl T.tuple PyProof.Rows.boot_tuple (@ah _ _ _ _ _ _ _ (gB (osc := au (aI 31)) [] ["number", "place"] rfl rfl rfl rfl (by decide +kernel) ⟨by decide +kernel, by decide +kernel, rfl, by decide +kernel, by decide +kernel⟩ (@gy _ _ _ _ _ _ (aa 1)) (fun cl C aH aQ fp => ⟨Or.inl rfl, rfl⟩) (fun cl C aH aQ fp => ⟨Or.inl rfl, rfl⟩)
        (fun cl C aH aQ fp => iP) (fun cl C aH aQ fp => (aa 1))) ak rfl)) (@ah _ _ _ _ _ _ _ (cZ df jt rfl T.tuple PyProof.Rows.boot_tuple (@ah _ _ _ _ _ _ _ (gB (osc := au (aI 31)) [] ["number", "place"] rfl rfl rfl rfl (by decide +kernel) ⟨by decide +kernel, by decide +kernel, rfl, by decide +kernel, by decide +kernel⟩ (@gy _ _ _ _ _ _ (aa 1)) (fun cl C aH aQ fp => ⟨Or.inl rfl, rfl⟩) (fun cl C aH aQ fp => ⟨Or.inl rfl, rfl⟩)
        (fun cl C aH aQ fp => iP) (fun cl C aH aQ fp => (aa 0))) ak rfl)) ak rfl) rfl))))))
theorem iq : aL ["thing", "number"] ["thing"] (au (aI 12)) := ⟨rfl, rfl, rfl, by decide +kernel, rfl, by decide +kernel, by decide +kernel⟩
theorem lW (D : aJ K mg "order_good" (aI 12)) (T : Blt mg) {gr : Tok} (eN : mg "MOST_NUMBERS" = some (.int 20 gr)) (a9 : Has P w K mg base g "is_within" 2 ["thing", "least", "most"] ba) : Has P w K mg base g "order_good" 3 ["thing"] cH := by
  obtain ⟨f, fd, hm, F⟩ := D
  obtain ⟨ib, gu, cw, cv, cu, cp, _⟩ := a9
  refine ⟨f, fd, pL (di F iq (fun cdv A outer s H E hr => ?_)), F.kp, F.binds (fun _ _ _ _ _ _ us hl => jP hl fun _ => rfl), hm, aP F⟩
  exact (@aw _ _ _ _ _ _ _ (@jj _ _ _ _ _ _ _ _ _ _ (PW.pt (@tE _ _ _ _ _ _ _ _ _ (@f6 _ _ _ _ _ _ (@eA _ _ _ _ _ _ iO (oj (aa 0) rfl T.isinstance rfl T.tuple PyProof.Rows.boot_tuple) (fun _ => rfl))) (@oI _ _ _ _ _ _ (@f6 _ _ _ _ _ _ (qr nU nU nO nO av (aT cc cb rfl T.len PySem.boot_len (@ah _ _ _ _ _ _ _ (aa 0) ak rfl)) (du rfl eN)))))) (@aC _ _ _ _ _ (@bp _ _ _ _ _ _ i7)) bR)
      (@aw _ _ _ _ _ _ _ (gL PassesOwn.never rfl (@gy _ _ _ _ _ _ (aa 0)) (bz (i := 1) iq.nd rfl (by first | exact Or.inl rfl | exact Or.inr rfl)) dg (@aC _ _ _ _ _ (@jj _ _ _ _ _ _ _ _ _ _ (@f6 _ _ _ _ _ _ (@eA _ _ _ _ _ _ iO (az (cw.mono (by decide)) hr rfl cp cv cu (@ah _ _ _ _ _ _ _ (aa 1) (@ah _ _ _ _ _ _ _ av (@ah _ _ _ _ _ _ _ (@ay _ _ _ _ _ _ _ _ _ _ _ ef eD (aT cc cb rfl T.len PySem.boot_len (@ah _ _ _ _ _ _ _ (aa 0) ak rfl)) av) ak rfl) rfl) rfl) (ai (ai (ai aA)))) (fun _ => rfl))) (@aC _ _ _ _ _ (@bp _ _ _ _ _ _ i7)) bR)))
      (@aC _ _ _ _ _ (@bp _ _ _ _ _ _ (@wg _ _ _ _ _ _ _ _ _ _ _ (wO hr.units) zJ (aT cc cb rfl T.len PySem.boot_len (@ah _ _ _ _ _ _ _ (cZ (oG rfl) BA rfl T.set PyProof.Rows.boot_set (@ah _ _ _ _ _ _ _ (aa 0) ak rfl)) ak rfl)) (aT cc cb rfl T.len PySem.boot_len (@ah _ _ _ _ _ _ _ (aa 0) ak rfl)) (cA _))))))
theorem j_ : aL ["thing"] ["thing"] (au (aI 13)) := ⟨rfl, rfl, rfl, by decide +kernel, rfl, by decide +kernel, by decide +kernel⟩
theorem jO (D : aJ K mg "order_needed" (aI 13)) (T : Blt mg) (eg : Has P w K mg base g "order_good" 3 ["thing"] cH) : Has P w K mg base g "order_needed" 4 ["thing"] bt := by
  obtain ⟨f, fd, hm, F⟩ := D
  obtain ⟨v_, uQ, lH, lU, my, kR, _⟩ := eg
  refine ⟨f, fd, di F j_ (fun cdv A outer s H E hr => ?_), F.kp, F.binds (fun _ _ _ _ _ _ us hl => jP hl fun _ => rfl), hm, aP F⟩
  exact (@aC _ _ _ _ _ (@jj _ _ _ _ _ _ _ _ _ _ (@f6 _ _ _ _ _ _ (@eA _ _ _ _ _ _ iO (az (lH.mono (by decide)) hr rfl kR lU my (@ah _ _ _ _ _ _ _ (aa 0) ak rfl) (ai aA)) (fun _ => rfl))) (@aC _ _ _ _ _ (PS.imp gX fun E σ H ⟨α, env, h, s, w⟩ => w.elim)) bR))
theorem qo : aL ["numbers"] ["numbers"] (au (aI 14)) := ⟨rfl, rfl, rfl, by decide +kernel, rfl, by decide +kernel, by decide +kernel⟩
theorem oz (D : aJ K mg "falls_in" (aI 14)) (T : Blt mg) : Has P w K mg base g "falls_in" 1 ["numbers"] bU := by
  obtain ⟨f, fd, hm, F⟩ := D
  refine ⟨f, fd, di F qo (fun cdv A outer s H E hr => ?_), F.kp, F.binds (fun _ _ _ _ _ _ us hl => jP hl fun _ => rfl), hm, aP F⟩
  exact (@aC _ _ _ _ _ (@bp _ _ _ _ _ _ (cZ df jt rfl T.tuple PyProof.Rows.boot_tuple (@ah _ _ _ _ _ _ _ (l_ (osc := au (aI 14)) [0] ["place", "numbers"] rfl rfl rfl rfl (by decide +kernel) ⟨by decide +kernel, by decide +kernel, rfl, by decide +kernel, rfl, by decide +kernel⟩ (fY rfl T.range (@ah _ _ _ _ _ _ _ (@ay _ _ _ _ _ _ _ _ _ _ _ ef eD (aT cc cb rfl T.len PySem.boot_len (@ah _ _ _ _ _ _ _ (aa 0) ak rfl)) av) ak rfl))
        (fun cl C aH aQ fp => (AQ (@cO _ _ _ _ _ _ _ _ _ _ _ vB wy (@eF _ _ _ _ _ _ _ _ _ _ cy dS (aa 1) (aa 0) (fun _ _ => rfl)) (@eF _ _ _ _ _ _ _ _ _ _ cy dS (aa 1) (@ay _ _ _ _ _ _ _ _ _ _ _ bq bo (aa 0) av) (fun _ _ => rfl)) (cA _)))) (fun cl C aH aQ fp => (aa 0))) ak rfl))))
theorem eT : aL ["order", "numbers", "falls", "place", "least"] ["order", "numbers"] (au (aI 33)) := ⟨rfl, rfl, rfl, by decide +kernel, rfl, by decide +kernel, by decide +kernel⟩
theorem pE (D : aJ K mg "rises_by" (aI 33)) (T : Blt mg) (bY : Has P w K mg base g "falls_in" 1 ["numbers"] bU) : Has P w K mg base g "rises_by" 2 ["order", "numbers"] eG := by
  obtain ⟨f, fd, hm, F⟩ := D
  obtain ⟨pK, mS, fK, fR, fO, fL, _⟩ := bY
  refine ⟨f, fd, di F eT (fun cdv A outer s H E hr => ?_), F.kp, F.binds (fun _ _ _ _ _ _ us hl => kN hl fun _ _ => rfl), hm, aP F⟩
  exact (@aw _ _ _ _ _ _ _ (@cj _ _ _ _ _ _ 2 _ _ eT.nd rfl (by first | exact Or.inl rfl | exact Or.inr rfl) (az (fK.mono (by decide)) hr rfl fL fR fO (@ah _ _ _ _ _ _ _ (aa 0) ak rfl) (ai aA)) rfl (.inl rfl))
      (@aw _ _ _ _ _ _ _ (gL PassesOwn.never rfl (fY rfl T.range (@ah _ _ _ _ _ _ _ (@ay _ _ _ _ _ _ _ _ _ _ _ ef eD (aT cc cb rfl T.len PySem.boot_len (@ah _ _ _ _ _ _ _ (aa 1) ak rfl)) av) ak rfl)) (bz (i := 3) eT.nd rfl (by first | exact Or.inl rfl | exact Or.inr rfl)) dg (@aw _ _ _ _ _ _ _ (@cj _ _ _ _ _ _ 4 _ _ eT.nd rfl (by first | exact Or.inl rfl | exact Or.inr rfl) (@wB _ _ _ _ _ _ _ _ _ _ (@cO _ _ _ _ _ _ _ _ _ _ _ tN CY (aa 3) (aa 2) (by rfl)) (@ay _ _ _ _ _ _ _ _ _ _ _ bq bo (@eF _ _ _ _ _ _ _ _ _ _ cy dS (aa 1) (aa 3) (fun _ _ => rfl)) av) (@eF _ _ _ _ _ _ _ _ _ _ cy dS (aa 1) (aa 3) (fun _ _ => rfl))) rfl (.inl rfl))
      (@aC _ _ _ _ _ (@jj _ _ _ _ _ _ _ _ _ _ (@cO _ _ _ _ _ _ _ _ _ _ _ vq xt (@eF _ _ _ _ _ _ _ _ _ _ cy dS (aa 1) (@ay _ _ _ _ _ _ _ _ _ _ _ bq bo (aa 3) av) (fun _ _ => rfl)) (aa 4) (cA _)) (@aC _ _ _ _ _ (@bp _ _ _ _ _ _ i7)) bR))))
      (@aC _ _ _ _ _ (@bp _ _ _ _ _ _ i7))))
theorem eP : aL ["order", "thing", "row", "place", "number"] ["order", "thing"] (au (aI 32)) := ⟨rfl, rfl, rfl, by decide +kernel, rfl, by decide +kernel, by decide +kernel⟩
theorem n9 (D : aJ K mg "row_with" (aI 32)) (T : Blt mg) (bh : Has P w K mg base g "order_needed" 4 ["thing"] bt) (bK : Has P w K mg base g "row_needed" 3 ["thing"] bM) (f7 : Has P w K mg base g "rises_by" 2 ["order", "numbers"] eG) : Has P w K mg base g "row_with" 5 ["order", "thing"] cD := by
  obtain ⟨f, fd, hm, F⟩ := D
  obtain ⟨jX, jr, cV, c_, cU, cW, _⟩ := bh
  obtain ⟨mn, kf, eJ, dU, eC, dY, _⟩ := bK
  obtain ⟨yt, xK, om, pf, pd, oS, _⟩ := f7
  refine ⟨f, fd, pL (di F eP (fun cdv A outer s H E hr => ?_)), F.kp, F.binds (fun _ _ _ _ _ _ us hl => kN hl fun _ _ => rfl), hm, aP F⟩
  exact (@aw _ _ _ _ _ _ _ (dE (az (cV.mono (by decide)) hr rfl cW c_ cU (@ah _ _ _ _ _ _ _ (aa 0) ak rfl) (ai aA)))
      (@aw _ _ _ _ _ _ _ (dE (az (eJ.mono (by decide)) hr rfl dY dU eC (@ah _ _ _ _ _ _ _ (aa 1) ak rfl) (ai aA)))
      (@aw _ _ _ _ _ _ _ (@jj _ _ _ _ _ _ _ _ _ _ (PW.pt (@tE _ _ _ _ _ _ _ _ _ (@cO _ _ _ _ _ _ _ _ _ _ _ (jz hr.units) nk (aT cc cb rfl T.len PySem.boot_len (@ah _ _ _ _ _ _ _ (aa 1) ak rfl)) (aT cc cb rfl T.len PySem.boot_len (@ah _ _ _ _ _ _ _ (aa 0) ak rfl)) (cA _)) (@oI _ _ _ _ _ _ (@f6 _ _ _ _ _ _ (@eA _ _ _ _ _ _ iO (az (om.mono (by decide)) hr rfl oS pf pd (@ah _ _ _ _ _ _ _ (aa 0) (@ah _ _ _ _ _ _ _ (aa 1) ak rfl) rfl) (ai (ai aA))) (fun _ => rfl)))))) (@aC _ _ _ _ _ (PS.imp gX fun E σ H ⟨α, env, h, s, w⟩ => w.elim)) bR)
      (@aw _ _ _ _ _ _ _ (@cj _ _ _ _ _ _ 2 _ _ eP.nd rfl (by first | exact Or.inl rfl | exact Or.inr rfl) (@ay _ _ _ _ _ _ _ _ _ _ _ fk fe (@fq _ _ _ _ _ _ _ _ (@ah _ _ _ _ _ _ _ av ak rfl)) (aT cc cb rfl T.len PySem.boot_len (@ah _ _ _ _ _ _ _ (aa 0) ak rfl))) rfl (.inl rfl))
      (@aw _ _ _ _ _ _ _ (gL PassesOwn.never rfl (yF rfl T.zip (@ah _ _ _ _ _ _ _ (aa 0) (@ah _ _ _ _ _ _ _ (aa 1) ak rfl) rfl)) (rK rfl (fB (bz (i := 3) eP.nd rfl (by first | exact Or.inl rfl | exact Or.inr rfl)) (fB (bz (i := 4) eP.nd rfl (by first | exact Or.inl rfl | exact Or.inr rfl)) pI))) vL (@aC _ _ _ _ _ (pF (aa 4) (aa 2) (aa 3) set_list jq)))
      (@aC _ _ _ _ _ (@bp _ _ _ _ _ _ (cZ df jt rfl T.tuple PyProof.Rows.boot_tuple (@ah _ _ _ _ _ _ _ (aa 2) ak rfl)))))))))
theorem qc : aL ["order"] ["order"] (au (aI 15)) := ⟨rfl, rfl, rfl, by decide +kernel, rfl, by decide +kernel, by decide +kernel⟩
theorem oY (D : aJ K mg "falls_of" (aI 15)) (T : Blt mg) (bh : Has P w K mg base g "order_needed" 4 ["thing"] bt) (bY : Has P w K mg base g "falls_in" 1 ["numbers"] bU) : Has P w K mg base g "falls_of" 5 ["order"] er := by
  obtain ⟨f, fd, hm, F⟩ := D
  obtain ⟨jX, jr, cV, c_, cU, cW, _⟩ := bh
  obtain ⟨pK, mS, fK, fR, fO, fL, _⟩ := bY
  refine ⟨f, fd, di F qc (fun cdv A outer s H E hr => ?_), F.kp, F.binds (fun _ _ _ _ _ _ us hl => jP hl fun _ => rfl), hm, aP F⟩
  exact (@aw _ _ _ _ _ _ _ (dE (az (cV.mono (by decide)) hr rfl cW c_ cU (@ah _ _ _ _ _ _ _ (aa 0) ak rfl) (ai aA)))
      (@aC _ _ _ _ _ (@bp _ _ _ _ _ _ (az (fK.mono (by decide)) hr rfl fL fR fO (@ah _ _ _ _ _ _ _ (aa 0) ak rfl) (ai aA)))))
theorem ng : aL ["order"] ["order"] (au (aI 16)) := ⟨rfl, rfl, rfl, by decide +kernel, rfl, by decide +kernel, by decide +kernel⟩
theorem k8 (D : aJ K mg "falls_many" (aI 16)) (T : Blt mg) (fI : Has P w K mg base g "falls_of" 5 ["order"] er) : Has P w K mg base g "falls_many" 6 ["order"] a8 := by
  obtain ⟨f, fd, hm, F⟩ := D
  obtain ⟨ze, xD, nW, pS, pV, oD, _⟩ := fI
  refine ⟨f, fd, di F ng (fun cdv A outer s H E hr => ?_), F.kp, F.binds (fun _ _ _ _ _ _ us hl => jP hl fun _ => rfl), hm, aP F⟩
  exact (@aC _ _ _ _ _ (@bp _ _ _ _ _ _ (aT cc cb rfl T.len PySem.boot_len (@ah _ _ _ _ _ _ _ (az (nW.mono (by decide)) hr rfl oD pS pV (@ah _ _ _ _ _ _ _ (aa 0) ak rfl) (ai aA)) ak rfl))))
theorem jA : aL ["thing", "least", "most"] ["thing", "least", "most"] (au (aI 8)) := ⟨rfl, rfl, rfl, by decide +kernel, rfl, by decide +kernel, by decide +kernel⟩
theorem jf (D : aJ K mg "number_needed" (aI 8)) (T : Blt mg) (a9 : Has P w K mg base g "is_within" 2 ["thing", "least", "most"] ba) : Has P w K mg base g "number_needed" 3 ["thing", "least", "most"] aK := by
  obtain ⟨f, fd, hm, F⟩ := D
  obtain ⟨ib, gu, cw, cv, cu, cp, _⟩ := a9
  refine ⟨f, fd, di F jA (fun cdv A outer s H E hr => ?_), F.kp, F.binds (fun _ _ _ _ _ _ us hl => Ce hl fun _ _ _ => rfl), hm, aP F⟩
  exact (@aC _ _ _ _ _ (@jj _ _ _ _ _ _ _ _ _ _ (@f6 _ _ _ _ _ _ (@eA _ _ _ _ _ _ iO (az (cw.mono (by decide)) hr rfl cp cv cu (@ah _ _ _ _ _ _ _ (aa 0) (@ah _ _ _ _ _ _ _ (aa 1) (@ah _ _ _ _ _ _ _ (aa 2) ak rfl) rfl) rfl) (ai (ai (ai aA)))) (fun _ => rfl))) (@aC _ _ _ _ _ (PS.imp gX fun E σ H ⟨α, env, h, s, w⟩ => w.elim)) bR))
theorem eR : aL ["many", "taken", "ways", "index"] ["many", "taken"] (au (aI 9)) := ⟨rfl, rfl, rfl, by decide +kernel, rfl, by decide +kernel, by decide +kernel⟩
theorem pQ (D : aJ K mg "ways_out" (aI 9)) (T : Blt mg) : Has P w K mg base g "ways_out" 1 ["many", "taken"] br := by
  obtain ⟨f, fd, hm, F⟩ := D
  refine ⟨f, fd, di F eR (fun cdv A outer s H E hr => ?_), F.kp, F.binds (fun _ _ _ _ _ _ us hl => kN hl fun _ _ => rfl), hm, aP F⟩
  exact (@aw _ _ _ _ _ _ _ (@cj _ _ _ _ _ _ 2 _ _ eR.nd rfl (by first | exact Or.inl rfl | exact Or.inr rfl) av rfl (.inl rfl))
      (@aw _ _ _ _ _ _ _ (gL PassesOwn.never rfl (fY rfl T.range (@ah _ _ _ _ _ _ _ (aa 1) ak rfl)) (bz (i := 3) eR.nd rfl (by first | exact Or.inl rfl | exact Or.inr rfl)) dg (@aC _ _ _ _ _ (@cj _ _ _ _ _ _ 2 _ _ eR.nd rfl (by first | exact Or.inl rfl | exact Or.inr rfl) (@ay _ _ _ _ _ _ _ _ _ _ _ lF rm (@ay _ _ _ _ _ _ _ _ _ _ _ fk fe (aa 2) (@ay _ _ _ _ _ _ _ _ _ _ _ ef eD (aa 0) (aa 3))) (@ay _ _ _ _ _ _ _ _ _ _ _ bq bo (aa 3) av)) rfl (.inl rfl))))
      (@aC _ _ _ _ _ (@bp _ _ _ _ _ _ (aa 2)))))
theorem vi : aL ["x", "n"] ["x", "n"] (au (aI 26)) := ⟨rfl, rfl, rfl, by decide +kernel, rfl, by decide +kernel, by decide +kernel⟩
theorem tV (D : aJ K mg "picks" (aI 26)) (T : Blt mg) {cG : Tok} (bB : mg "MOST_BASE" = some (.int 1000000 cG)) {iB : Tok} (ff : mg "MOST_PICKED" = some (.int 30 iB)) (aM : Has P w K mg base g "number_needed" 3 ["thing", "least", "most"] aK) (bf : Has P w K mg base g "ways_out" 1 ["many", "taken"] br) : Has P w K mg base g "picks" 4 ["x", "n"] fG := by
  obtain ⟨f, fd, hm, F⟩ := D
  obtain ⟨eQ, dP, aV, aU, aW, aX, _⟩ := aM
  obtain ⟨jc, ij, cM, cN, cK, cP, _⟩ := bf
  refine ⟨f, fd, di F vi (fun cdv A outer s H E hr => ?_), F.kp, F.binds (fun _ _ _ _ _ _ us hl => kN hl fun _ _ => rfl), hm, aP F⟩
  exact (@aw _ _ _ _ _ _ _ (dE (az (aV.mono (by decide)) hr rfl aX aU aW (@ah _ _ _ _ _ _ _ (aa 0) (@ah _ _ _ _ _ _ _ av (@ah _ _ _ _ _ _ _ (du rfl bB) ak rfl) rfl) rfl) (ai (ai (ai aA)))))
      (@aw _ _ _ _ _ _ _ (dE (az (aV.mono (by decide)) hr rfl aX aU aW (@ah _ _ _ _ _ _ _ (aa 1) (@ah _ _ _ _ _ _ _ av (@ah _ _ _ _ _ _ _ (du rfl ff) ak rfl) rfl) rfl) (ai (ai (ai aA)))))
      (@aC _ _ _ _ _ (@bp _ _ _ _ _ _ (az (cM.mono (by decide)) hr rfl cP cN cK (@ah _ _ _ _ _ _ _ (aa 0) (@ah _ _ _ _ _ _ _ (aa 1) ak rfl) rfl) (ai (ai aA)))))))
theorem ly : aL ["base", "n"] ["base", "n"] (au (aI 30)) := ⟨rfl, rfl, rfl, by decide +kernel, rfl, by decide +kernel, by decide +kernel⟩
theorem kx (D : aJ K mg "base_needed" (aI 30)) (T : Blt mg) {cG : Tok} (bB : mg "MOST_BASE" = some (.int 1000000 cG)) {i8 : Tok} (fP : mg "MOST_POWER" = some (.int 20 i8)) (aM : Has P w K mg base g "number_needed" 3 ["thing", "least", "most"] aK) : Has P w K mg base g "base_needed" 4 ["base", "n"] bF := by
  obtain ⟨f, fd, hm, F⟩ := D
  obtain ⟨eQ, dP, aV, aU, aW, aX, _⟩ := aM
  refine ⟨f, fd, di F ly (fun cdv A outer s H E hr => ?_), F.kp, F.binds (fun _ _ _ _ _ _ us hl => kN hl fun _ _ => rfl), hm, aP F⟩
  exact (@aw _ _ _ _ _ _ _ (dE (az (aV.mono (by decide)) hr rfl aX aU aW (@ah _ _ _ _ _ _ _ (aa 0) (@ah _ _ _ _ _ _ _ av (@ah _ _ _ _ _ _ _ (du rfl bB) ak rfl) rfl) rfl) (ai (ai (ai aA)))))
      (@aC _ _ _ _ _ (dE (az (aV.mono (by decide)) hr rfl aX aU aW (@ah _ _ _ _ _ _ _ (aa 1) (@ah _ _ _ _ _ _ _ av (@ah _ _ _ _ _ _ _ (du rfl fP) ak rfl) rfl) rfl) (ai (ai (ai aA)))))))
theorem eX : aL ["row", "n", "edged"] ["row"] (au (aI 19)) := ⟨rfl, rfl, rfl, by decide +kernel, rfl, by decide +kernel, by decide +kernel⟩
theorem lT (D : aJ K mg "longer_row" (aI 19)) (T : Blt mg) : Has P w K mg base g "longer_row" 1 ["row"] b8 := by
  obtain ⟨f, fd, hm, F⟩ := D
  refine ⟨f, fd, di F eX (fun cdv A outer s H E hr => ?_), F.kp, F.binds (fun _ _ _ _ _ _ us hl => jP hl fun _ => rfl), hm, aP F⟩
  exact (@aw _ _ _ _ _ _ _ (@cj _ _ _ _ _ _ 1 _ _ eX.nd rfl (by first | exact Or.inl rfl | exact Or.inr rfl) (@ay _ _ _ _ _ _ _ _ _ _ _ bq bo (aT cc cb rfl T.len PySem.boot_len (@ah _ _ _ _ _ _ _ (aa 0) ak rfl)) av) rfl (.inl rfl))
      (@aw _ _ _ _ _ _ _ (@cj _ _ _ _ _ _ 2 _ _ eX.nd rfl (by first | exact Or.inl rfl | exact Or.inr rfl) (@ay _ _ _ _ _ _ _ _ _ _ _ bq bo (@ay _ _ _ _ _ _ _ _ _ _ _ bq bo (@fq _ _ _ _ _ _ _ _ (@ah _ _ _ _ _ _ _ av ak rfl)) (aa 0)) (@fq _ _ _ _ _ _ _ _ (@ah _ _ _ _ _ _ _ av ak rfl))) rfl (.inl rfl))
      (@aC _ _ _ _ _ (@bp _ _ _ _ _ _ (l_ (osc := au (aI 19)) [2, 1] ["k", "edged", "n"] rfl rfl rfl rfl (by decide +kernel) ⟨by decide +kernel, by decide +kernel, rfl, by decide +kernel, rfl, by decide +kernel⟩ (fY rfl T.range (@ah _ _ _ _ _ _ _ (aa 1) ak rfl))
        (fun cl C aH aQ fp => iP) (fun cl C aH aQ fp => (@ay _ _ _ _ _ _ _ _ _ _ _ bq bo (@ay _ _ _ _ _ _ _ _ _ _ _ fk fe (@ay _ _ _ _ _ _ _ _ _ _ _ bq bo (aa 0) av) (@eF _ _ _ _ _ _ _ _ _ _ cy dS (aa 1) (@ay _ _ _ _ _ _ _ _ _ _ _ bq bo (aa 0) av) (fun _ _ => rfl))) (@ay _ _ _ _ _ _ _ _ _ _ _ fk fe (@ay _ _ _ _ _ _ _ _ _ _ _ ef eD (aa 2) (aa 0)) (@eF _ _ _ _ _ _ _ _ _ _ cy dS (aa 1) (aa 0) (fun _ _ => rfl))))))))))
theorem jJ : aL ["n", "row"] ["n"] (au (aI 20)) := ⟨rfl, rfl, rfl, by decide +kernel, rfl, by decide +kernel, by decide +kernel⟩
theorem rY (D : aJ K mg "row_of" (aI 20)) (T : Blt mg) {j4 : Tok} (gF : mg "MOST_ROWS" = some (.int 30 j4)) (aM : Has P w K mg base g "number_needed" 3 ["thing", "least", "most"] aK) (eI : Has P w K mg base g "longer_row" 1 ["row"] b8) : Has P w K mg base g "row_of" 4 ["n"] dW := by
  obtain ⟨f, fd, hm, F⟩ := D
  obtain ⟨eQ, dP, aV, aU, aW, aX, _⟩ := aM
  obtain ⟨wY, uU, l4, lX, mm, lI, _⟩ := eI
  refine ⟨f, fd, di F jJ (fun cdv A outer s H E hr => ?_), F.kp, F.binds (fun _ _ _ _ _ _ us hl => jP hl fun _ => rfl), hm, aP F⟩
  exact (@aw _ _ _ _ _ _ _ (dE (az (aV.mono (by decide)) hr rfl aX aU aW (@ah _ _ _ _ _ _ _ (aa 0) (@ah _ _ _ _ _ _ _ av (@ah _ _ _ _ _ _ _ (du rfl gF) ak rfl) rfl) rfl) (ai (ai (ai aA)))))
      (@aw _ _ _ _ _ _ _ (@cj _ _ _ _ _ _ 1 _ _ jJ.nd rfl (by first | exact Or.inl rfl | exact Or.inr rfl) (@fq _ _ _ _ _ _ _ _ (@ah _ _ _ _ _ _ _ av ak rfl)) rfl (.inl rfl))
      (@aw _ _ _ _ _ _ _ (@xX _ _ _ _ _ _ _ _ 64 PassesOwn.never (@cO _ _ _ _ _ _ _ _ _ _ _ vq xt (aT cc cb rfl T.len PySem.boot_len (@ah _ _ _ _ _ _ _ (aa 1) ak rfl)) (aa 0) (cA _)) (@aC _ _ _ _ _ (@cj _ _ _ _ _ _ 1 _ _ jJ.nd rfl (by first | exact Or.inl rfl | exact Or.inr rfl) (az (l4.mono (by decide)) hr rfl lI lX mm (@ah _ _ _ _ _ _ _ (aa 1) ak rfl) (ai aA)) rfl (.inl rfl))))
      (@aC _ _ _ _ _ (@bp _ _ _ _ _ _ (aa 1))))))
theorem lO : aL ["x", "n"] ["x", "n"] (au (aI 27)) := ⟨rfl, rfl, rfl, by decide +kernel, rfl, by decide +kernel, by decide +kernel⟩
theorem kn (D : aJ K mg "power_parts" (aI 27)) (T : Blt mg) (bx : Has P w K mg base g "base_needed" 4 ["base", "n"] bF) (c0 : Has P w K mg base g "row_of" 4 ["n"] dW) (bf : Has P w K mg base g "ways_out" 1 ["many", "taken"] br) : Has P w K mg base g "power_parts" 5 ["x", "n"] bG := by
  obtain ⟨f, fd, hm, F⟩ := D
  obtain ⟨ke, jY, dA, dD, dB, dw, _⟩ := bx
  obtain ⟨rW, qb, iF, iJ, iV, iT, _⟩ := c0
  obtain ⟨jc, ij, cM, cN, cK, cP, _⟩ := bf
  refine ⟨f, fd, di F lO (fun cdv A outer s H E hr => ?_), F.kp, F.binds (fun _ _ _ _ _ _ us hl => kN hl fun _ _ => rfl), hm, aP F⟩
  exact (@aw _ _ _ _ _ _ _ (dE (az (dA.mono (by decide)) hr rfl dw dD dB (@ah _ _ _ _ _ _ _ (aa 0) (@ah _ _ _ _ _ _ _ (aa 1) ak rfl) rfl) (ai (ai aA))))
      (@aC _ _ _ _ _ (@bp _ _ _ _ _ _ (gB (osc := au (aI 27)) [0, 1] ["k", "many", "x", "n"] rfl rfl rfl rfl (by decide +kernel) ⟨by decide +kernel, by decide +kernel, rfl, by decide +kernel, by decide +kernel⟩ (pH rfl T.enumerate (az (iF.mono (by decide)) hr rfl iT iJ iV (@ah _ _ _ _ _ _ _ (aa 1) ak rfl) (ai aA))) (fun cl C aH aQ fp => ⟨Or.inl rfl, rfl⟩) (fun cl C aH aQ fp => ⟨Or.inl rfl, rfl⟩)
        (fun cl C aH aQ fp => iP) (fun cl C aH aQ fp => (@ay _ _ _ _ _ _ _ _ _ _ _ fk fe (aa 1) (az (cM.mono (by decide)) hr rfl cP cN cK (@ah _ _ _ _ _ _ _ (@ay _ _ _ _ _ _ _ _ _ _ _ bq bo (aa 2) (aa 0)) (@ah _ _ _ _ _ _ _ (aa 3) ak rfl) rfl) (ai (ai aA)))))))))
theorem dh : aL ["_law_x", "_law_n", "_law_found", "_law_turn"] ["_law_x", "_law_n"] (au (aI 40)) := ⟨rfl, rfl, rfl, by decide +kernel, rfl, by decide +kernel, by decide +kernel⟩
theorem mB (D : aJ K mg "_law_power" (aI 40)) (T : Blt mg) : Has P w K mg base g "_law_power" 1 ["_law_x", "_law_n"] bO := by
  obtain ⟨f, fd, hm, F⟩ := D
  refine ⟨f, fd, di F dh (fun cdv A outer s H E hr => ?_), F.kp, F.binds (fun _ _ _ _ _ _ us hl => kN hl fun _ _ => rfl), hm, aP F⟩
  exact (@aw _ _ _ _ _ _ _ (@cj _ _ _ _ _ _ 2 _ _ dh.nd rfl (by first | exact Or.inl rfl | exact Or.inr rfl) av rfl (.inl rfl))
      (@aw _ _ _ _ _ _ _ (gL PassesOwn.never rfl (fY rfl T.range (@ah _ _ _ _ _ _ _ (aa 1) ak rfl)) (bz (i := 3) dh.nd rfl (by first | exact Or.inl rfl | exact Or.inr rfl)) dg (@aC _ _ _ _ _ (@cj _ _ _ _ _ _ 2 _ _ dh.nd rfl (by first | exact Or.inl rfl | exact Or.inr rfl) (@ay _ _ _ _ _ _ _ _ _ _ _ fk fe (aa 2) (aa 0)) rfl (.inl rfl))))
      (@aC _ _ _ _ _ (@bp _ _ _ _ _ _ (aa 2)))))
theorem oU : aL ["m", "n"] ["m", "n"] (au (aI 28)) := ⟨rfl, rfl, rfl, by decide +kernel, rfl, by decide +kernel, by decide +kernel⟩
theorem mV (D : aJ K mg "sum_parts" (aI 28)) (T : Blt mg) (bx : Has P w K mg base g "base_needed" 4 ["base", "n"] bF) (c0 : Has P w K mg base g "row_of" 4 ["n"] dW) (bf : Has P w K mg base g "ways_out" 1 ["many", "taken"] br) : Has P w K mg base g "sum_parts" 5 ["m", "n"] dj := by
  obtain ⟨f, fd, hm, F⟩ := D
  obtain ⟨ke, jY, dA, dD, dB, dw, _⟩ := bx
  obtain ⟨rW, qb, iF, iJ, iV, iT, _⟩ := c0
  obtain ⟨jc, ij, cM, cN, cK, cP, _⟩ := bf
  refine ⟨f, fd, di F oU (fun cdv A outer s H E hr => ?_), F.kp, F.binds (fun _ _ _ _ _ _ us hl => kN hl fun _ _ => rfl), hm, aP F⟩
  exact (@aw _ _ _ _ _ _ _ (dE (az (dA.mono (by decide)) hr rfl dw dD dB (@ah _ _ _ _ _ _ _ (aa 0) (@ah _ _ _ _ _ _ _ (aa 1) ak rfl) rfl) (ai (ai aA))))
      (@aC _ _ _ _ _ (@bp _ _ _ _ _ _ (gB (osc := au (aI 28)) [0, 1] ["k", "many", "m", "n"] rfl rfl rfl rfl (by decide +kernel) ⟨by decide +kernel, by decide +kernel, rfl, by decide +kernel, by decide +kernel⟩ (pH rfl T.enumerate (az (iF.mono (by decide)) hr rfl iT iJ iV (@ah _ _ _ _ _ _ _ (aa 1) ak rfl) (ai aA))) (fun cl C aH aQ fp => ⟨Or.inl rfl, rfl⟩) (fun cl C aH aQ fp => ⟨Or.inl rfl, rfl⟩)
        (fun cl C aH aQ fp => iP) (fun cl C aH aQ fp => (@ay _ _ _ _ _ _ _ _ _ _ _ fk fe (aa 1) (az (cM.mono (by decide)) hr rfl cP cN cK (@ah _ _ _ _ _ _ _ (@ay _ _ _ _ _ _ _ _ _ _ _ bq bo (@ay _ _ _ _ _ _ _ _ _ _ _ bq bo (aa 2) (aa 0)) av) (@ah _ _ _ _ _ _ _ (@ay _ _ _ _ _ _ _ _ _ _ _ bq bo (aa 3) av) ak rfl) rfl) (ai (ai aA)))))))))
theorem m9 : aL ["m", "n"] ["m", "n"] (au (aI 29)) := ⟨rfl, rfl, rfl, by decide +kernel, rfl, by decide +kernel, by decide +kernel⟩
theorem kW (D : aJ K mg "powers_sum" (aI 29)) (T : Blt mg) (fc : Has P w K mg base g "sum_parts" 5 ["m", "n"] dj) : Has P w K mg base g "powers_sum" 6 ["m", "n"] aZ := by
  obtain ⟨f, fd, hm, F⟩ := D
  obtain ⟨xI, xv, mM, mK, mX, nc, _⟩ := fc
  refine ⟨f, fd, di F m9 (fun cdv A outer s H E hr => ?_), F.kp, F.binds (fun _ _ _ _ _ _ us hl => kN hl fun _ _ => rfl), hm, aP F⟩
  exact (@aC _ _ _ _ _ (@bp _ _ _ _ _ _ (aT (t_ rfl) AY rfl T.sum PyProof.Rows.boot_sum (@ah _ _ _ _ _ _ _ (az (mM.mono (by decide)) hr rfl nc mK mX (@ah _ _ _ _ _ _ _ (aa 0) (@ah _ _ _ _ _ _ _ (aa 1) ak rfl) rfl) (ai (ai aA))) ak rfl))))
theorem cJ : aL ["_law_script", "_law_cell", "_law_pen", "_law_n", "_law_x", "_law_rows", "_law_turn", "_law_longer", "_law_row", "_law_counts", "_law_falls", "_law_order", "_law_some"] ["_law_script"] (au (aI 41)) := ⟨rfl, rfl, rfl, by decide +kernel, rfl, by decide +kernel, by decide +kernel⟩
theorem y_ (D : aJ K mg "law" (aI 41)) (T : Blt mg) (cY : Has P w K mg base g "_law_cell_at" 1 ["_law_script", "_law_k"] bj) (dC : Has P w K mg base g "_law_pen_of" 1 ["_law_cell"] bE) (fj : Has P w K mg base g "_law_draw" 2 ["_law_pen", "_law_many"] aS) (e9 : Has P w K mg base g "sorted_by" 4 ["row"] bW) (fQ : Has P w K mg base g "row_with" 5 ["order", "thing"] cD) (eM : Has P w K mg base g "falls_many" 6 ["order"] a8) (jT : Has P w K mg base g "picks" 4 ["x", "n"] fG) (dz : Has P w K mg base g "power_parts" 5 ["x", "n"] bG) (dQ : Has P w K mg base g "_law_power" 1 ["_law_x", "_law_n"] bO) (dO : Has P w K mg base g "powers_sum" 6 ["m", "n"] aZ) : Has P w K mg base g "law" 7 ["_law_script"] lB := by
  obtain ⟨f, fd, hm, F⟩ := D
  obtain ⟨tS, sW, jU, jZ, jR, jB, _⟩ := cY
  obtain ⟨uP, uk, kD, ku, ki, ko, _⟩ := dC
  obtain ⟨xJ, vd, iw, ie, iA, ir, _⟩ := fj
  obtain ⟨xH, wH, mF, mG, mZ, mT, _⟩ := e9
  obtain ⟨yH, xE, ou, ph, nV, o_, _⟩ := fQ
  obtain ⟨uZ, uT, gM, gA, gK, gE, _⟩ := eM
  obtain ⟨BC, Ai, ub, tF, uq, uy, _⟩ := jT
  obtain ⟨uS, uj, kg, kC, kr, ka, _⟩ := dz
  obtain ⟨xb, uR, kZ, kM, md, mj, _⟩ := dQ
  obtain ⟨vx, uO, gR, gU, gZ, gw, _⟩ := dO
  refine ⟨f, fd, pL (di F cJ (fun cdv A outer s H E hr => ?_)), F.kp, F.binds (fun _ _ _ _ _ _ us hl => jP hl fun _ => rfl), hm, aP F⟩
  exact (@aw _ _ _ _ _ _ _ (gL PassesOwn.never rfl (@gy _ _ _ _ _ _ (@ay _ _ _ _ _ _ _ _ _ _ _ bq bo (@fq _ _ _ _ _ _ _ _ (@ah _ _ _ _ _ _ _ (az (jU.mono (by decide)) hr rfl jB jZ jR (@ah _ _ _ _ _ _ _ (aa 0) (@ah _ _ _ _ _ _ _ av ak rfl) rfl) (ai (ai aA))) ak rfl)) (vz (aa 0) (@sT _ _ _ _ _ av) (@sT _ _ _ _ _ av)))) (bz (i := 1) cJ.nd rfl (by first | exact Or.inl rfl | exact Or.inr rfl)) dg (@aw _ _ _ _ _ _ _ (@cj _ _ _ _ _ _ 2 _ _ cJ.nd rfl (by first | exact Or.inl rfl | exact Or.inr rfl) (az (kD.mono (by decide)) hr rfl ko ku ki (@ah _ _ _ _ _ _ _ (aa 1) ak rfl) (ai aA)) rfl (.inl rfl))
      (@aw _ _ _ _ _ _ _ (@cj _ _ _ _ _ _ 3 _ _ cJ.nd rfl (by first | exact Or.inl rfl | exact Or.inr rfl) (@ay _ _ _ _ _ _ _ _ _ _ _ bq bo av (az (iw.mono (by decide)) hr rfl ir ie iA (@ah _ _ _ _ _ _ _ (aa 2) (@ah _ _ _ _ _ _ _ av ak rfl) rfl) (ai (ai aA)))) rfl (.inl rfl))
      (@aw _ _ _ _ _ _ _ (@cj _ _ _ _ _ _ 4 _ _ cJ.nd rfl (by first | exact Or.inl rfl | exact Or.inr rfl) (az (iw.mono (by decide)) hr rfl ir ie iA (@ah _ _ _ _ _ _ _ (aa 2) (@ah _ _ _ _ _ _ _ (@eF _ _ _ _ _ _ _ _ _ _ cy dS (@fq _ _ _ _ _ _ _ _ (@ah _ _ _ _ _ _ _ av (@ah _ _ _ _ _ _ _ av (@ah _ _ _ _ _ _ _ av (@ah _ _ _ _ _ _ _ av ak rfl) rfl) rfl) rfl)) (@ay _ _ _ _ _ _ _ _ _ _ _ ef eD (aa 3) av) (fun _ _ => rfl)) ak rfl) rfl) (ai (ai aA))) rfl (.inl rfl))
      (@aw _ _ _ _ _ _ _ (@cj _ _ _ _ _ _ 5 _ _ cJ.nd rfl (by first | exact Or.inl rfl | exact Or.inr rfl) (@fq _ _ _ _ _ _ _ _ (@ah _ _ _ _ _ _ _ (@pB _ _ _ _ _ _ _ ak) ak rfl)) rfl (.inl rfl))
      (@aw _ _ _ _ _ _ _ (gL PassesOwn.never rfl (fY rfl T.range (@ah _ _ _ _ _ _ _ (aa 3) ak rfl)) (bz (i := 6) cJ.nd rfl (by first | exact Or.inl rfl | exact Or.inr rfl)) dg (@aw _ _ _ _ _ _ _ (@cj _ _ _ _ _ _ 7 _ _ cJ.nd rfl (by first | exact Or.inl rfl | exact Or.inr rfl) (@fq _ _ _ _ _ _ _ _ ak) rfl (.inl rfl))
      (@aw _ _ _ _ _ _ _ (gL PassesOwn.never rfl (@gy _ _ _ _ _ _ (aa 5)) (bz (i := 8) cJ.nd rfl (by first | exact Or.inl rfl | exact Or.inr rfl)) dg (@aC _ _ _ _ _ (dE (Bu PySem.F.slot_list_extend PySem.F.type_list_extend rD tU (aa 7) (@ah _ _ _ _ _ _ _ (l_ (osc := au (aI 41)) [8] ["_law_number", "_law_row"] rfl rfl rfl rfl (by decide +kernel) ⟨by decide +kernel, by decide +kernel, rfl, by decide +kernel, rfl, by decide +kernel⟩ (fY rfl T.range (@ah _ _ _ _ _ _ _ (aa 4) ak rfl))
        (fun cl C aH aQ fp => iP) (fun cl C aH aQ fp => (@ay _ _ _ _ _ _ _ _ _ _ _ bq bo (aa 1) (@pB _ _ _ _ _ _ _ (@ah _ _ _ _ _ _ _ (aa 0) ak rfl))))) ak rfl)))))
      (@aC _ _ _ _ _ (@cj _ _ _ _ _ _ 5 _ _ cJ.nd rfl (by first | exact Or.inl rfl | exact Or.inr rfl) (aa 7) rfl (.inl rfl))))))
      (@aw _ _ _ _ _ _ _ (z_ (i := 9) (j := 10) rfl cJ.nd rfl rfl (by decide) (@ah _ _ _ _ _ _ _ yr (@ah _ _ _ _ _ _ _ (@ay _ _ _ _ _ _ _ _ _ _ _ fk fe (@fq _ _ _ _ _ _ _ _ (@ah _ _ _ _ _ _ _ av ak rfl)) (aa 3)) ak rfl) rfl))
      (@aw _ _ _ _ _ _ _ (gL PassesOwn.never rfl (@gy _ _ _ _ _ _ (aa 5)) (bz (i := 8) cJ.nd rfl (by first | exact Or.inl rfl | exact Or.inr rfl)) dg (@aw _ _ _ _ _ _ _ (CF (i := 11) (j := 12) rfl cJ.nd rfl rfl (az (mF.mono (by decide)) hr rfl mT mG mZ (@ah _ _ _ _ _ _ _ (aa 8) ak rfl) (ai aA)))
      (@aw _ _ _ _ _ _ _ (@jj _ _ _ _ _ _ _ _ _ _ (@cO _ _ _ _ _ _ _ _ _ _ _ (jz hr.units) nk (az (ou.mono (by decide)) hr rfl o_ ph nV (@ah _ _ _ _ _ _ _ (aa 11) (@ah _ _ _ _ _ _ _ (aa 12) ak rfl) rfl) (ai (ai aA))) (aa 8) (cA _)) (@aC _ _ _ _ _ (@bp _ _ _ _ _ _ i7)) bR)
      (@aw _ _ _ _ _ _ _ (z0 (un1 hr.units) (@ay _ _ _ _ _ _ _ _ _ _ _ bq bo (wJ (un1 hr.units) (aa 9) (aa 11) av ⟨rfl, rfl, rfl, rfl⟩) av) (aa 9) (aa 11))
      (@aC _ _ _ _ _ (yO (aa 10) (az (gM.mono (by decide)) hr rfl gE gA gK (@ah _ _ _ _ _ _ _ (aa 11) ak rfl) (ai aA)) av))))))
      (@aw _ _ _ _ _ _ _ (gL PassesOwn.never rfl (@gy _ _ _ _ _ _ (cZ (bu.frz (mW rfl)) wo rfl T.list PyProof.Rows.boot_list (@ah _ _ _ _ _ _ _ (aa 9) ak rfl))) (bz (i := 11) cJ.nd rfl (by first | exact Or.inl rfl | exact Or.inr rfl)) dg (@aC _ _ _ _ _ (@jj _ _ _ _ _ _ _ _ _ _ (@cO _ _ _ _ _ _ _ _ _ _ _ (jz hr.units) nk (yW (un1 hr.units) (aa 9) (aa 11) (fun _ _ => rfl)) (az (ub.mono (by decide)) hr rfl uy tF uq (@ah _ _ _ _ _ _ _ (@ay _ _ _ _ _ _ _ _ _ _ _ ef eD (@ay _ _ _ _ _ _ _ _ _ _ _ ef eD (@ay _ _ _ _ _ _ _ _ _ _ _ bq bo (aa 4) (aa 3)) av) (az (gM.mono (by decide)) hr rfl gE gA gK (@ah _ _ _ _ _ _ _ (aa 11) ak rfl) (ai aA))) (@ah _ _ _ _ _ _ _ (aa 3) ak rfl) rfl) (ai (ai aA))) (cA _)) (@aC _ _ _ _ _ (@bp _ _ _ _ _ _ i7)) bR)))
      (@aw _ _ _ _ _ _ _ (@jj _ _ _ _ _ _ _ _ _ _ (PW.pt (@tE _ _ _ _ _ _ _ _ _ (@cO _ _ _ _ _ _ _ _ _ _ _ (jz hr.units) nk (aa 10) (xQ (az (kg.mono (by decide)) hr rfl ka kC kr (@ah _ _ _ _ _ _ _ (aa 4) (@ah _ _ _ _ _ _ _ (aa 3) ak rfl) rfl) (ai (ai aA)))) (cA _)) (@oI _ _ _ _ _ _ (@cO _ _ _ _ _ _ _ _ _ _ _ (jz hr.units) nk (aT cc cb rfl T.len PySem.boot_len (@ah _ _ _ _ _ _ _ (aa 5) ak rfl)) (az (kZ.mono (by decide)) hr rfl mj kM md (@ah _ _ _ _ _ _ _ (aa 4) (@ah _ _ _ _ _ _ _ (aa 3) ak rfl) rfl) (ai (ai aA))) (cA _))))) (@aC _ _ _ _ _ (@bp _ _ _ _ _ _ i7)) bR)
      (@aC _ _ _ _ _ (@jj _ _ _ _ _ _ _ _ _ _ (PW.pt (@vQ _ _ _ _ _ _ _ _ _ (@cO _ _ _ _ _ _ _ _ _ _ _ vB wy (aa 4) av (cA _)) (@sx _ _ _ _ _ _ (@cO _ _ _ _ _ _ _ _ _ _ _ (jz hr.units) nk (@ay _ _ _ _ _ _ _ _ _ _ _ ef eD (az (gR.mono (by decide)) hr rfl gw gU gZ (@ah _ _ _ _ _ _ _ (aa 4) (@ah _ _ _ _ _ _ _ (aa 3) ak rfl) rfl) (ai (ai aA))) (az (gR.mono (by decide)) hr rfl gw gU gZ (@ah _ _ _ _ _ _ _ (@ay _ _ _ _ _ _ _ _ _ _ _ ef eD (aa 4) av) (@ah _ _ _ _ _ _ _ (aa 3) ak rfl) rfl) (ai (ai aA)))) (aT cc cb rfl T.len PySem.boot_len (@ah _ _ _ _ _ _ _ (aa 5) ak rfl)) (cA _))))) (@aC _ _ _ _ _ (@bp _ _ _ _ _ _ i7)) bR))))))))))))
      (@aC _ _ _ _ _ (@bp _ _ _ _ _ _ i7)))
end
structure Text (K : PySem.W.Frag) : Prop where
  eE : bH K "_law_cell_at" (aI 36)
  fh : bH K "_law_pen_of" (aI 38)
  gQ : bH K "_law_next" (aI 37)
  hG : bH K "_law_draw" (aI 39)
  iH : bH K "is_whole" (aI 6)
  g9 : bH K "is_within" (aI 7)
  gc : bH K "row_needed" (aI 34)
  gD : bH K "sorted_by" (aI 31)
  gf : bH K "order_good" (aI 12)
  d_ : bH K "order_needed" (aI 13)
  iD : bH K "falls_in" (aI 14)
  iZ : bH K "rises_by" (aI 33)
  iR : bH K "row_with" (aI 32)
  iI : bH K "falls_of" (aI 15)
  fT : bH K "falls_many" (aI 16)
  dy : bH K "number_needed" (aI 8)
  iX : bH K "ways_out" (aI 9)
  oh : bH K "picks" (aI 26)
  eY : bH K "base_needed" (aI 30)
  fU : bH K "longer_row" (aI 19)
  lS : bH K "row_of" (aI 20)
  eZ : bH K "power_parts" (aI 27)
  gh : bH K "_law_power" (aI 40)
  gS : bH K "sum_parts" (aI 28)
  fN : bH K "powers_sum" (aI 29)
  xh : bH K "law" (aI 41)
  rM : PySem.W.nsIn K mainGlobals "bool" = some none
  gY : PySem.W.nsIn K mainGlobals "enumerate" = some none
  vY : PySem.W.nsIn K mainGlobals "int" = some none
  f9 : PySem.W.nsIn K mainGlobals "isinstance" = some none
  xu : PySem.W.nsIn K mainGlobals "len" = some none
  qZ : PySem.W.nsIn K mainGlobals "list" = some none
  vO : PySem.W.nsIn K mainGlobals "max" = some none
  oo : PySem.W.nsIn K mainGlobals "range" = some none
  vT : PySem.W.nsIn K mainGlobals "set" = some none
  lN : PySem.W.nsIn K mainGlobals "sorted" = some none
  u6 : PySem.W.nsIn K mainGlobals "sum" = some none
  nZ : PySem.W.nsIn K mainGlobals "tuple" = some none
  u9 : PySem.W.nsIn K mainGlobals "zip" = some none
  dq : ∃ t, PySem.W.nsIn K mainGlobals "MOST_BASE" = some (some (Value.int 1000000 t))
  bX : ∃ t, PySem.W.nsIn K mainGlobals "MOST_NUMBERS" = some (some (Value.int 20 t))
  cn : ∃ t, PySem.W.nsIn K mainGlobals "MOST_PICKED" = some (some (Value.int 30 t))
  cL : ∃ t, PySem.W.nsIn K mainGlobals "MOST_POWER" = some (some (Value.int 20 t))
  dv : ∃ t, PySem.W.nsIn K mainGlobals "MOST_ROWS" = some (some (Value.int 30 t))
  cq : ∃ t, PySem.W.nsIn K mainGlobals "MOST_SORTED" = some (some (Value.int 12 t))
theorem all_mk {P : Program} {w : World} {K : PySem.W.Frag} {h : Heap} {mg : Str -> Option Value} {fa : Addr} (X : K.In h) (G : h.Ns mainGlobals mg) (hfa : mg "law" = some (.ref fa)) (t : Text K) :
    ∃ fd : FuncData, (∀ (s : Shared) (v : Value), BindsTo s fd ⟨[v], []⟩ [("_law_script", v)]) /\ ∀ base : Heap, K.In base -> base.Ns mainGlobals mg -> fo P w K mg base CX0 7 fa fd ["_law_script"] (spM K (gOf mg) 1 lB) := by
  have T : Blt mg := ⟨PySem.W.mg_none_of X G t.rM, PySem.W.mg_none_of X G t.gY, PySem.W.mg_none_of X G t.vY, PySem.W.mg_none_of X G t.f9, PySem.W.mg_none_of X G t.xu, PySem.W.mg_none_of X G t.qZ, PySem.W.mg_none_of X G t.vO, PySem.W.mg_none_of X G t.oo, PySem.W.mg_none_of X G t.vT, PySem.W.mg_none_of X G t.lN, PySem.W.mg_none_of X G t.u6, PySem.W.mg_none_of X G t.nZ, PySem.W.mg_none_of X G t.u9⟩
  obtain ⟨cG, dq⟩ := t.dq
  have bB := PySem.W.mg_of X G dq
  obtain ⟨gr, bX⟩ := t.bX
  have eN := PySem.W.mg_of X G bX
  obtain ⟨iB, cn⟩ := t.cn
  have ff := PySem.W.mg_of X G cn
  obtain ⟨i8, cL⟩ := t.cL
  have fP := PySem.W.mg_of X G cL
  obtain ⟨j4, dv⟩ := t.dv
  have gF := PySem.W.mg_of X G dv
  obtain ⟨h_, cq⟩ := t.cq
  have e8 := PySem.W.mg_of X G cq
  have kU := aJ.of X G t.eE
  have m6 := aJ.of X G t.fh
  have qE := aJ.of X G t.gQ
  have qT := aJ.of X G t.hG
  have rH := aJ.of X G t.iH
  have qF := aJ.of X G t.g9
  have pA := aJ.of X G t.gc
  have qq := aJ.of X G t.gD
  have pM := aJ.of X G t.gf
  have k6 := aJ.of X G t.d_
  have sg := aJ.of X G t.iD
  have rL := aJ.of X G t.iZ
  have rk := aJ.of X G t.iR
  have r6 := aJ.of X G t.iI
  have oO := aJ.of X G t.fT
  have kh := aJ.of X G t.dy
  have rh := aJ.of X G t.iX
  have xR := aJ.of X G t.oh
  have mL := aJ.of X G t.eY
  have oA := aJ.of X G t.fU
  have xg := aJ.of X G t.lS
  have mJ := aJ.of X G t.eZ
  have oF := aJ.of X G t.gh
  have qh := aJ.of X G t.gS
  have oq := aJ.of X G t.fN
  have CJ := aJ.of X G t.xh
  obtain ⟨f, fd, hm, F⟩ := CJ
  have e := hfa.symm.trans hm
  cases e
  refine ⟨fd, ?_, fun base _ _ => ?_⟩
  · obtain ⟨oc, od, kV, doc, pm, an, cdv, ct, osl, rfl, lk, hcd⟩ := F.ex
    exact fun s v => .of_eq rfl
  · have cY := jL (P := P) (w := w) (base := base) (g := gOf mg) kU T
    have dC := ky (P := P) (w := w) (base := base) (g := gOf mg) m6 T
    have eV := mO (P := P) (w := w) (base := base) (g := gOf mg) qE T
    have fj := mQ (P := P) (w := w) (base := base) (g := gOf mg) qT T eV
    have fV := oK (P := P) (w := w) (base := base) (g := gOf mg) rH T
    have a9 := mU (P := P) (w := w) (base := base) (g := gOf mg) qF T fV
    have bK := lK (P := P) (w := w) (base := base) (g := gOf mg) pA T bB e8 a9
    have e9 := mR (P := P) (w := w) (base := base) (g := gOf mg) qq T bK
    have eg := lW (P := P) (w := w) (base := base) (g := gOf mg) pM T eN a9
    have bh := jO (P := P) (w := w) (base := base) (g := gOf mg) k6 T eg
    have bY := oz (P := P) (w := w) (base := base) (g := gOf mg) sg T
    have f7 := pE (P := P) (w := w) (base := base) (g := gOf mg) rL T bY
    have fQ := n9 (P := P) (w := w) (base := base) (g := gOf mg) rk T bh bK f7
    have fI := oY (P := P) (w := w) (base := base) (g := gOf mg) r6 T bh bY
    have eM := k8 (P := P) (w := w) (base := base) (g := gOf mg) oO T fI
    have aM := jf (P := P) (w := w) (base := base) (g := gOf mg) kh T a9
    have bf := pQ (P := P) (w := w) (base := base) (g := gOf mg) rh T
    have jT := tV (P := P) (w := w) (base := base) (g := gOf mg) xR T bB ff aM bf
    have bx := kx (P := P) (w := w) (base := base) (g := gOf mg) mL T bB fP aM
    have eI := lT (P := P) (w := w) (base := base) (g := gOf mg) oA T
    have c0 := rY (P := P) (w := w) (base := base) (g := gOf mg) xg T gF aM eI
    have dz := kn (P := P) (w := w) (base := base) (g := gOf mg) mJ T bx c0 bf
    have dQ := mB (P := P) (w := w) (base := base) (g := gOf mg) oF T
    have fc := mV (P := P) (w := w) (base := base) (g := gOf mg) qh T bx c0 bf
    have dO := kW (P := P) (w := w) (base := base) (g := gOf mg) oq T fc
    have xU := y_ (P := P) (w := w) (base := base) (g := gOf mg) ⟨_, _, hm, F⟩ T cY dC fj e9 fQ eM jT dz dQ dO
    exact Ag F hm xU
theorem walk {l : PySem.W.OpenLaw} {q : Program} {loose : List Str} {XP : (Str -> Option Value) -> Heap -> Prop} {YP : World -> Heap -> Prop} {d : DefRec} {K : Params -> PySem.W.Frag} (hn : l.most = some 63) (hdf : d.params.defaults = [])
    (hY : ∀ (w : World) (h : Heap), YP w h -> (K w.params).In h)
    (ok : ∀ ns : List Int, ns.length <= 63 -> ∃ h, lB [.scr (ns.map D.int)] [] = .ok (.bl true) h)
    (F : ∀ (w : World) (mg : Str -> Option Value) (fa : Addr) (h : Heap), (K w.params).In h -> h.Ns mainGlobals mg -> mg d.name = some (.ref fa) →
      ∃ fd : FuncData, (∀ (s : Shared) (u : Value), BindsTo s fd ⟨[u], []⟩ [("_law_script", u)]) /\ ∀ base : Heap, (K w.params).In base -> base.Ns mainGlobals mg -> fo l.prog w (K w.params) mg base CX0 7 fa fd ["_law_script"] (spM (K w.params) (gOf mg) 1 lB)) :
    PySem.W.WalkO q loose XP YP l.row.toRowW d [] (fun f vs => PySem.call f vs) :=
  AK (k := 7) hn hdf ⟨rfl, by decide, by decide, rfl⟩ hY ok F
theorem cX {i : Int} (h1 : -(10 ^ 30) <= i) (h2 : i <= 10 ^ 30) : sml i = true := pP (Nat.le_trans (show i.natAbs <= 10 ^ 30 by omega) (by decide +kernel))
theorem Bm {h : Hh} {n : Nat} {ds : List D} (e : ax h n = some ds) : n < h.length := by
  unfold ax at e
  by_cases hl : n < h.length
  · exact hl
  · rw [List.getElem?_eq_none (by omega)] at e; cases e
theorem sZ {h : Hh} {n : Nat} {ds es : List D} (e : ax h n = some ds) : ax (h.set n (.lst es)) n = some es := by
  unfold ax; rw [List.getElem?_set_self (Bm e)]
structure Pen where
  a : Int
  b : Int
  s : Int
noncomputable abbrev iW (p : Pen) : List D := [.int p.a, .int p.b, .int p.s]
noncomputable def nxt (x : Int) : Int := ((x + 7919) % 2147483647 * ((x + 7919) % 2147483647) + 48271 * ((x + 7919) % 2147483647) + 12345) % 2147483629
noncomputable def gv (p : Pen) (m : Int) : Int := if p.b = 1 /\ 0 < p.a then p.a % m else nxt (nxt p.s + 7) / 64 % m
noncomputable def kX (p : Pen) (m : Int) : Pen := if p.b = 1 /\ 0 < p.a then ⟨p.a / m, p.b, p.s⟩ else ⟨p.a, p.b, nxt (nxt p.s + 7)⟩
theorem yy (p : Pen) {m : Int} (h : 0 < m) : 0 <= gv p m := by unfold gv; split <;> exact Int.emod_nonneg _ (by omega)
theorem vC (p : Pen) {m : Int} (h : 0 < m) : gv p m < m := by unfold gv; split <;> exact Int.emod_lt_of_pos _ h
@[simp] theorem Ex {x : Int} {h : Hh} : cE [.int x] h = .ok (.int (nxt x)) h := by
  have h1 : 0 <= (x + 7919) % 2147483647 := Int.emod_nonneg _ (by decide)
  have h2 : (x + 7919) % 2147483647 < 2147483647 := Int.emod_lt_of_pos _ (by decide)
  have s1 : sml ((x + 7919) % 2147483647) = true := cX (by omega) (by omega)
  have s2 : sml 48271 = true := by decide +kernel
  simp [cE, bA, s1, s2, nxt]
theorem Bv {p : Pen} {m : Int} {h : Hh} {n : Nat} (e : ax h n = some (iW p)) (hm : 0 < m) (hm2 : m <= 10 ^ 20) : aS [.ref n, .int m] h = .ok (.int (gv p m)) (h.set n (.lst (iW (kX p m)))) := by
  have s1 : sml m = true := cX (by omega) (by omega)
  have s2 : sml 64 = true := by decide +kernel
  have i2 : ∀ (x y z : Int) (h : Hh), ixK [D.int x, .int y, .int z] 2 h = .ok (.int z) h := fun _ _ _ _ => rfl
  have n0 : ixN (iW p).length 0 = some 0 := rfl
  have n2 : ixN (iW p).length 2 = some 2 := rfl
  by_cases c : p.b = 1
  · by_cases c2 : 0 < p.a
    · simp [aS, bA, nS e, c, c2, hm, s1, jb e n0, gv, kX]
    · simp [aS, bA, nS e, c, c2, i2, jb e n2, nS (sZ e), s1, s2, hm, gv, kX]
  · simp [aS, bA, nS e, c, i2, jb e n2, nS (sZ e), s1, s2, hm, gv, kX]
@[simp] theorem tB {p : Pen} {m : Int} {h t : Hh} (hm : 0 < m /\ m <= 10 ^ 20) : aS [.ref h.length, .int m] (h ++ .lst (iW p) :: t) = .ok (.int (gv p m)) (h ++ .lst (iW (kX p m)) :: t) := by
  rw [Bv hW hm.1 hm.2, kG]
noncomputable def sG (c : Int) : Pen := ⟨max c (0 - c), if max c (0 - c) ≥ 10 ^ 18 then 1 else 0, max c (0 - c) % 1000003⟩
@[simp] theorem EM {c : Int} {h : Hh} : bE [.int c] h = .ok (.ref h.length) (h ++ [.lst (iW (sG c))]) := by
  have s1 : sml 10 = true := by decide +kernel
  simp [bE, bA, s1, sG]
@[simp] theorem Eo {ns : List Int} {h : Hh} : bj [.scr (ns.map D.int), .int 0] h = .ok (.int (ns.headD 0)) h := by
  cases ns with
  | nil => simp [bj, bA]
  | cons c r => simp [bj, bA]
@[simp] theorem Di {i : Int} {h : Hh} : dZ [.int i] h = .ok (.bl true) h := by simp [dZ, bA]
@[simp] theorem BY {i a b : Int} {h : Hh} : ba [.int i, .int a, .int b] h = .ok (.bl (decide (a <= i /\ i <= b))) h := by
  by_cases z : a <= i <;> simp [ba, bA, z]
@[simp] theorem CC {i a b : Int} {h : Hh} (hi : a <= i /\ i <= b) : aK [.int i, .int a, .int b] h = .ok .non h := by
  simp [aK, bA, hi]
structure Ord (n : Nat) (xs : List Int) : Prop where
  len : xs.length = n
  nd : xs.Nodup
  lo : ∀ x ∈ xs, 0 <= x
  hi : ∀ x ∈ xs, x < n
noncomputable def kc (lo : Int) (n : Nat) : List Int := (List.range n).map fun (i : Nat) => lo + i
theorem jl (lo : Int) (n : Nat) : (kc lo n).length = n := by simp [kc]
theorem wX (n : Nat) : Ord n (kc 0 n) := by
  refine ⟨jl _ _, ?_, ?_, ?_⟩
  · unfold kc List.Nodup
    rw [List.pairwise_map]
    exact List.Pairwise.imp (fun {a b} h e => h (by omega)) List.nodup_range
  · intro x hx; simp [kc] at hx; omega
  · intro x hx; simp [kc] at hx; omega
theorem A3 {n : Nat} {xs : List Int} {h : Hh} (o : Ord n xs) (h1 : 1 <= n) (h2 : n <= 20) (w : Wf h) : cH [.tup (xs.map D.int)] h = .ok (.bl true) h := by
  have hl := o.len
  obtain ⟨q, _⟩ := ji (tg := gN 1) (body := cQ (dX (aO jI (aj ba (ae (af 1) (ae (cC (.int 0)) (ae (ao cS (aj bZ (ae (af 0) aq)) (cC (.int 1))) aq)))))) (bw (cC (.bl false))) bI)
    (fun (s : Option D) => [some (.tup (xs.map D.int)), s]) (fun _ => h) D.int (fun s x => some (.int x)) (fun r s => ∀ x ∈ r, 0 <= x /\ x < n) (fun s x r hr => ⟨fun y hy => hr y (List.mem_cons_of_mem _ hy), .inl (by
      have := hr x List.mem_cons_self
      have z : 0 <= x /\ x <= ↑xs.length - 1 := by omega
      simp [z])⟩) xs none (fun x hx => ⟨o.lo x hx, o.hi x hx⟩)
  have c1 : (1 : Int) <= xs.length := by omega
  have c2 : (xs.length : Int) <= 20 := by omega
  have c3 : xs.length <= 4000 := by omega
  have c4 := uo o.nd
  simp [cH, bA, c1, c2, q, c3, c4]
  exact iM w rfl
theorem nK {n : Nat} {xs : List Int} {h : Hh} (o : Ord n xs) (h1 : 1 <= n) (h2 : n <= 20) (w : Wf h) : bt [.tup (xs.map D.int)] h = .ok .non h := by
  simp [bt, bA, A3 o h1 h2 w]
noncomputable def qQ {X : Type} (xs : List X) (lo hi : Option Int) : List X := (xs.drop (HT.sIx xs.length 0 lo)).take (HT.sIx xs.length xs.length hi - HT.sIx xs.length 0 lo)
theorem vU {X : Type} (f : X -> D) (xs : List X) (lo hi : Option Int) : cutD (xs.map f) lo hi = (qQ xs lo hi).map f := by
  unfold cutD qQ
  rw [List.length_map, List.map_take, List.map_drop]
theorem sR (i : Int) : ∀ ns : List Int, ((ns.map D.int).any fun d => eqF d (.int i)) = ns.any (· == i)
  | [] => rfl
  | n :: r => by rw [List.map_cons, List.any_cons, List.any_cons, sR i r]; rfl
theorem uE (ns : List Int) : (ns.map D.int).all dG = true := by simp [dG]
@[simp] theorem EU {neg : Bool} {i : Int} {ns : List Int} {h : Hh} : dIn neg (.int i) (.tup (ns.map D.int)) h = .ok (.bl (if neg then !(ns.any (· == i)) else ns.any (· == i))) h := by
  simp only [dIn, gk, dG, uE, and_self, if_true, sR]
noncomputable def oN (xs : List Int) : List Nat := (List.range (xs.length - 1)).filter fun i => decide (gI xs (i + 1) < gI xs i)
noncomputable def aY (xs : List Int) : List Int := (oN xs).map fun (i : Nat) => (i : Int)
theorem tQ {xs : List Int} {h : Hh} {d : D} (hd : ∀ (i : Int), dIx d (.int i) h = ixK (xs.map D.int) i h) : ck (aO asB (ao dGt (ao dIx (af 1) (af 0)) (ao dIx (af 1) (ao (bb aD) (af 0) (cC (.int 1)))))) (af 0) (fun x => [some x, some d]) (dJ 0 (xs.length - 1)) h = .ok ((aY xs).map D.int) h := by
  rw [wU (fun i => decide (gI xs (i + 1) < gI xs i)) (fun i => D.int i)]
  · simp [aY, oN, List.map_map]
  · intro i hi
    have e1 : ixK (xs.map D.int) (i : Int) h = .ok (.int (gI xs i)) h := gg rfl (by omega)
    have e2 : ixK (xs.map D.int) ((i : Int) + 1) h = .ok (.int (gI xs (i + 1))) h := gg (by omega) (by omega)
    simp [hd, e1, e2]
theorem lA {xs : List Int} {h : Hh} (hl : xs.length <= 1000) (h1 : 1 <= xs.length) : bU [.tup (xs.map D.int)] h = .ok (.tup ((aY xs).map D.int)) h := by
  have z1 : ((xs.length : Int) - 1).natAbs <= 1000000 := by omega
  have z2 : ((xs.length : Int) - 1).toNat = xs.length - 1 := by omega
  have z3 : xs.length - 1 <= 1000000 := by omega
  have q := tQ (xs := xs) (h := h) (d := .tup (xs.map D.int)) (fun i => BQ)
  simp [bU, bA, z1, z2, z3, q]
theorem rB {n : Nat} {xs : List Int} {h : Hh} (o : Ord n xs) (h1 : 1 <= n) (h2 : n <= 20) (w : Wf h) : er [.tup (xs.map D.int)] h = .ok (.tup ((aY xs).map D.int)) h := by
  simp [er, bA, nK o h1 h2 w, lA (h := h) (xs := xs) (by have := o.len; omega) (by have := o.len; omega)]
theorem Bt {h : Hh} (w : Wf h) (p : Pen) : Wf (h ++ [.lst (iW p)]) := w.app rfl
theorem zG (p : Pen) (m : Int) (h : 0 < m) : ∃ k : Nat, gv p m = (k : Int) /\ (k : Int) < m := by
  have h0 := yy p h
  have h1 := vC p h
  exact ⟨(gv p m).toNat, by omega, by omega⟩
theorem tL (ns : List Int) (lo hi : Option Int) : cutD (ns.map D.int) lo hi = (qQ ns lo hi).map D.int := vU _ _ _ _
theorem zh {X : Type} (xs : List X) (lo hi : Option Int) : (qQ xs lo hi).length <= xs.length := by
  unfold qQ; rw [List.length_take, List.length_drop]; omega
theorem q_ : ∀ (n : Nat) (xs : List Int), xs.Nodup -> (∀ x ∈ xs, 0 <= x /\ x < n) -> xs.length <= n
  | 0, xs, _, h => by
    cases xs with
    | nil => simp
    | cons x r => have := h x List.mem_cons_self; omega
  | n + 1, xs, nd, h => by
    by_cases hm : (n : Int) ∈ xs
    · have ih := q_ n (xs.erase n) (nd.erase _) (fun x hx => by
        obtain ⟨a, b⟩ := (List.Nodup.mem_erase_iff nd).mp hx
        have := h x b; omega)
      rw [List.length_erase_of_mem hm] at ih
      omega
    · have ih := q_ n xs nd (fun x hx => by
        have a := h x hx
        have b : x ≠ (n : Int) := fun e => hm (e ▸ hx)
        omega)
      omega
theorem nY {n : Nat} {xs : List Int} (o : Ord n xs) {j : Int} (h0 : 0 <= j) (h1 : j < n) : j ∈ xs := by
  refine Classical.byContradiction fun hj => ?_
  have := q_ n (j :: xs) (List.nodup_cons.mpr ⟨hj, o.nd⟩) (fun x hx => by
    rcases List.mem_cons.mp hx with rfl | hx
    · exact ⟨h0, h1⟩
    · exact ⟨o.lo x hx, o.hi x hx⟩)
  rw [List.length_cons, o.len] at this
  omega
theorem C2 {xs ys : List Int} (h : xs.length = ys.length) (e : ∀ i, i < xs.length -> gI xs i = gI ys i) : xs = ys := by
  refine List.ext_getElem h fun i h1 h2 => ?_
  have := e i h1
  rwa [gC h1, gC h2] at this
noncomputable def qw (xs : List Int) : List Int := (List.range (xs.length + 1)).map fun (k : Nat) => ((k : Int) + 1) * gI (0 :: xs ++ [0]) (k + 1) + ((xs.length : Int) + 1 - (k : Int)) * gI (0 :: xs ++ [0]) k
noncomputable def h9 : Nat -> List Int
  | 0 => [1]
  | n + 1 => qw (h9 n)
theorem jS : ∀ n, n < 31 -> (h9 n).length = n + 1 /\ ∀ x ∈ h9 n, x.natAbs <= 10 ^ 40 := by decide +kernel
theorem uJ (xs : List Int) : (qw xs).length = xs.length + 1 := by simp [qw]
theorem eB : ∀ n, (h9 n).length = n + 1
  | 0 => rfl
  | n + 1 => by rw [h9, uJ, eB n]
theorem rj {x : Int} (h : x.natAbs <= 10 ^ 40) : sml x = true := pP (Nat.le_trans h (by decide +kernel))
theorem lD {xs : List Int} {b : Nat} (h : ∀ x ∈ xs, x.natAbs <= b) (k : Nat) : (gI xs k).natAbs <= b := by
  by_cases hk : k < xs.length
  · exact h _ (jN hk)
  · unfold gI; rw [List.getD_eq_getElem?_getD, List.getElem?_eq_none (by omega)]; simp
theorem wm {xs : List Int} {h : Hh} (hl : xs.length <= 100) (hb : ∀ x ∈ xs, x.natAbs <= 10 ^ 40) : b8 [.frl (xs.map D.int)] h = .ok (.frl ((qw xs).map D.int)) h := by
  have hb' : ∀ k, sml (gI (0 :: xs ++ [0]) k) = true := fun k => rj (lD (fun y hy => by
    simp at hy
    rcases hy with rfl | hy | rfl
    · decide
    · exact hb y hy
    · decide) k)
  have z1 : ((xs.length : Int) + 1).natAbs <= 1000000 := by omega
  have z2 : ((xs.length : Int) + 1).toNat = xs.length + 1 := by omega
  have z3 : xs.length + 1 <= 1000000 := by omega
  have z4 : 1 + xs.length <= 1000000 := by omega
  have z5 : xs.length + 1 + 1 <= 1000000 := by omega
  have q := nP (h := h) (n := xs.length + 1) (te := ao (bb aD) (ao (dM aD) (ao (bb aD) (af 0) (cC (.int 1))) (ao dIx (af 1) (ao (bb aD) (af 0) (cC (.int 1))))) (ao (dM aD) (ao cS (af 2) (af 0)) (ao dIx (af 1) (af 0))))
    (ee := fun d => [some d, some (.frl (D.int 0 :: (xs.map D.int ++ [D.int 0]))), some (.int ((xs.length : Int) + 1))]) (fun (k : Nat) => D.int (((k : Int) + 1) * gI (0 :: xs ++ [0]) (k + 1) + ((xs.length : Int) + 1 - (k : Int)) * gI (0 :: xs ++ [0]) k)) (fun i hi => by
      have t1 : ixK (D.int 0 :: (xs.map D.int ++ [D.int 0])) ((i : Int) + 1) h = .ok (.int (gI (0 :: xs ++ [0]) (i + 1))) h := by
        have := gg (h := h) (ns := 0 :: xs ++ [0]) (i := (i : Int) + 1) (j := i + 1) (by omega) (by simp; omega)
        simpa using this
      have t2 : ixK (D.int 0 :: (xs.map D.int ++ [D.int 0])) (i : Int) h = .ok (.int (gI (0 :: xs ++ [0]) i)) h := by
        have := gg (h := h) (ns := 0 :: xs ++ [0]) (i := (i : Int)) (j := i) (by omega) (by simp; omega)
        simpa using this
      have s1 : sml ((i : Int) + 1) = true := cX (by omega) (by omega)
      have s2 : sml ((xs.length : Int) + 1 - (i : Int)) = true := cX (by omega) (by omega)
      simp [t1, t2, s1, s2]
      simp only [List.cons_append] at hb'
      simp [hb'])
  simp [b8, bA, z1, z2, z3, z4, z5, q, qw]
theorem zS {n : Nat} {h : Hh} (hn : n < 30) : dW [.int ((n : Int) + 1)] h = .ok (.frl ((h9 n).map D.int)) h := by
  have q := rl (c := aO asB (ao dLt (aj bZ (ae (af 1) aq)) (af 0))) (b := bL 1 (aj b8 (ae (af 1) aq))) n (fun i => [some (.int ((n : Int) + 1)), some (.frl ((h9 i).map D.int))]) (fun _ => h) (fun i hi => by
      simp [eB]; omega) (fun i hi => by
      have := wm (h := h) (xs := h9 i) (by rw [eB]; omega) (jS i (by omega)).2
      simp [this]; rfl) (by simp [eB]) 64 (by omega)
  have z : 1 <= (n : Int) + 1 /\ (n : Int) + 1 <= 30 := by omega
  simp only [h9, List.map_cons, List.map_nil] at q
  simp [dW, bA, z, q]
noncomputable def ch : Nat -> Nat -> Nat
  | _, 0 => 1
  | 0, _ + 1 => 0
  | n + 1, k + 1 => ch n k + ch n (k + 1)
theorem uW (n : Nat) : ch n 0 = 1 := by cases n <;> rfl
theorem lL : ∀ {n k : Nat}, n < k -> ch n k = 0
  | 0, k + 1, _ => rfl
  | n + 1, k + 1, h => by rw [ch, lL (by omega), lL (by omega)]
theorem i_ : ∀ (n i : Nat), ch n (i + 1) * (i + 1) = ch n i * (n - i)
  | 0, 0 => rfl
  | 0, i + 1 => by simp [ch]
  | n + 1, 0 => by
    have := i_ n 0
    rw [uW] at this
    show (ch n 0 + ch n (0 + 1)) * (0 + 1) = ch (n + 1) 0 * (n + 1 - 0)
    rw [uW, uW]
    omega
  | n + 1, i + 1 => by
    by_cases h : i <= n
    · have a := i_ n (i + 1)
      have b := i_ n i
      rw [show ch (n + 1) (i + 1 + 1) = ch n (i + 1) + ch n (i + 1 + 1) from rfl, show ch (n + 1) (i + 1) = ch n i + ch n (i + 1) from rfl]
      rw [Nat.add_mul, a, Nat.add_mul, show n + 1 - (i + 1) = n - i by omega, <- b]
      by_cases h2 : i + 1 <= n
      · rw [<- Nat.mul_add, <- Nat.mul_add]
        congr 1
        omega
      · have : n = i := by omega
        subst this
        rw [lL (show n < n + 1 by omega)]
        simp
    · rw [lL (show n + 1 < i + 1 by omega), lL (show n + 1 < i + 1 + 1 by omega)]; simp
theorem zO (n : Nat) : ∀ i, ch n i <= (n + 1) ^ i
  | 0 => by rw [uW]; simp
  | i + 1 => by
    have a := i_ n i
    have b := zO n i
    have c : ch n (i + 1) <= ch n (i + 1) * (i + 1) := Nat.le_mul_of_pos_right _ (by omega)
    have d : ch n i * (n - i) <= (n + 1) ^ i * (n + 1) := Nat.mul_le_mul b (by omega)
    rw [Nat.pow_succ]
    omega
theorem rV {n i : Nat} (hn : n <= 1000100) (hi : i <= 40) : sml (ch n i : Int) = true := by
  refine pP ?_
  rw [Int.natAbs_natCast]
  refine Nat.le_trans (zO n i) (Nat.le_trans (Nat.pow_le_pow_left (show n + 1 <= 10 ^ 7 by omega) i) (Nat.le_trans (Nat.pow_le_pow_right (by decide) hi) (by decide +kernel)))
theorem rT {x n : Nat} {h : Hh} (hx : x <= 1000100) (hn : n <= 40) : br [.int x, .int n] h = .ok (.int (ch x n)) h := by
  obtain ⟨q, e⟩ := sL (tg := gN 3) (body := bL 2 (ao r_ (ao (dM aD) (af 2) (ao cS (af 0) (af 3))) (ao (bb aD) (af 3) (cC (.int 1))))) n
    (fun (s : Nat × Option D) => [some (.int x), some (.int n), some (.int (ch x s.1)), s.2]) (fun _ => h) (fun _ i => (i + 1, some (.int (i : Nat)))) (fun i s => s.1 = i) (0, none) rfl (fun i s hi hs => ⟨rfl, .inl (by
      subst hs
      have s1 := rV hx (show s.1 <= 40 by omega)
      have s2 : sml ((x : Int) - s.1) = true := cX (by omega) (by omega)
      have s3 : sml ((s.1 : Int) + 1) = true := cX (by omega) (by omega)
      have z : (0 : Int) < (s.1 : Int) + 1 := by omega
      have key : (ch x s.1 : Int) * ((x : Int) - s.1) / ((s.1 : Int) + 1) = (ch x (s.1 + 1) : Int) := by
        have a := i_ x s.1
        have b : (ch x s.1 : Int) * ((x : Int) - s.1) = (ch x (s.1 + 1) : Int) * ((s.1 : Int) + 1) := by
          by_cases hl : s.1 <= x
          · have a' : ((ch x (s.1 + 1) * (s.1 + 1) : Nat) : Int) = ((ch x s.1 * (x - s.1) : Nat) : Int) := by rw [a]
            rw [Int.natCast_mul, Int.natCast_mul, Int.natCast_sub hl] at a'
            simpa using a'.symm
          · rw [lL (show x < s.1 by omega), lL (show x < s.1 + 1 by omega)]; simp
        rw [b, Int.mul_ediv_cancel _ (by omega)]
      simp [s1, s2, s3, z, key])⟩)
  generalize List.foldl (fun (_ : Nat × Option D) i => (i + 1, some (D.int (i : Nat)))) (0, none) (List.range n) = s9 at q e
  subst e
  have z1 : s9.1 <= 1000000 := by omega
  rw [uW] at q
  simp [br, bA, z1] at q ⊢
  simp [q]
theorem tw {σ : Type} {rd : Rdr} {tg : D -> En -> Hh -> R En} {body : MS} (enc : Nat -> D) (N : Nat) (E : σ -> En) (G : σ -> Hh) (I : Nat -> σ -> Prop) (hr : ∀ s i, i < N -> rd (G s) i = some (some (enc i))) (hr2 : ∀ s, rd (G s) N = some none)
    (st : ∀ i s, i < N -> I i s -> ∃ s', I (i + 1) s' /\ (tg (enc i) (E s) (G s)).bind body = .ok (.nx (E s')) (G s')) :
    ∀ (k i : Nat) (s : σ), i + k = N -> I i s -> ∃ s', gp rd tg body k i (E s) (G s) = .ok (.nx (E s')) (G s') /\ I N s' := by
  intro k
  induction k with
  | zero =>
    intro i s e hi
    have : i = N := by omega
    subst this
    refine ⟨s, ?_, hi⟩
    unfold gp
    rw [hr2]
  | succ k ih =>
    intro i s e hi
    obtain ⟨s1, a, b⟩ := st i s (by omega) hi
    obtain ⟨s2, c, d⟩ := ih (i + 1) s1 (by omega) a
    refine ⟨s2, ?_, d⟩
    unfold gp
    rw [hr s i (by omega)]
    show (tg (enc i) (E s) (G s)).bind (fun e1 h1 => (body e1 h1).bind _) = _
    rw [<- bg, b]
    exact c
theorem sI {σ : Type} {tg : D -> En -> Hh -> R En} {body : MS} (enc : Nat -> D) (N : Nat) (E : σ -> En) (G : σ -> Hh) (I : Nat -> σ -> Prop)
    (st : ∀ i s, i < N -> I i s -> ∃ s', I (i + 1) s' /\ (tg (enc i) (E s) (G s)).bind body = .ok (.nx (E s')) (G s')) :
    ∀ (k i : Nat) (s : σ), i + k = N -> I i s -> ∃ s', cT tg body ((List.range' i k).map enc) (E s) (G s) = .ok (.nx (E s')) (G s') /\ I N s' := by
  intro k
  induction k with
  | zero =>
    intro i s e hi
    have : i = N := by omega
    subst this
    exact ⟨s, rfl, hi⟩
  | succ k ih =>
    intro i s e hi
    obtain ⟨s1, a, b⟩ := st i s (by omega) hi
    obtain ⟨s2, c, d⟩ := ih (i + 1) s1 (by omega) a
    refine ⟨s2, ?_, d⟩
    rw [List.range'_succ, List.map_cons, cT, <- bg, b]
    exact c
theorem AL (n : Nat) : dJ 0 n = (List.range' 0 n).map fun (i : Nat) => D.int i := by rw [fD, List.range_eq_range']
noncomputable def pq (xs : List Int) (p : Int) : Int × Int := (gI xs p.toNat, p)
noncomputable abbrev kq (xs : List Int) (p : Int) : Int := gI xs p.toNat * 100 + p
noncomputable def prs (xs : List Int) : List (Int × Int) := (kc 0 xs.length).map (pq xs)
noncomputable def Upk (xs os : List Int) : Prop := os.Pairwise fun a b => kq xs a < kq xs b
theorem lQ {n : Nat} {os : List Int} (o : Ord n os) : os.Perm (kc 0 n) := by
  have r := wX n
  refine List.perm_iff_count.mpr fun a => ?_
  rw [o.nd.count, r.nd.count]
  have : a ∈ os ↔ a ∈ kc 0 n := ⟨fun h => nY r (o.lo a h) (o.hi a h), fun h => nY o (r.lo a h) (r.hi a h)⟩
  simp only [this]
theorem yA {xs os : List Int} (o : Ord xs.length os) (up : Upk xs os) : lu (prs xs) = os.map (pq xs) :=
  (iK (((lQ o).map (pq xs)).trans (iN _).symm) (List.pairwise_map.mpr up) (fH _)).symm
theorem Bq {xs os : List Int} (o : Ord xs.length os) (up : Upk xs os) (h1 : 2 <= xs.length) (h2 : xs.length <= 12) : okP (prs xs) = true := by
  have hl : (prs xs).length = xs.length := by simp [prs, jl]
  have nd : ((prs xs).map kP).Nodup := by
    have pm : ((os.map (pq xs)).map kP).Perm ((prs xs).map kP) := ((lQ o).map (pq xs)).map kP
    refine pm.nodup_iff.mp ?_
    rw [List.map_map]
    refine List.pairwise_map.mpr (List.Pairwise.imp (fun {a b} h e => ?_) up)
    have e' : kq xs a = kq xs b := e
    omega
  unfold okP
  rw [decide_eq_true (by omega), Bool.true_and, decide_eq_true nd, Bool.and_true, List.all_eq_true]
  intro p hp
  simp only [prs, kc, List.map_map, List.mem_map, List.mem_range] at hp
  obtain ⟨i, hi, rfl⟩ := hp
  simp only [Function.comp, pq]
  exact decide_eq_true (by omega)
theorem nh : ∀ ps : List (Int × Int), pairsOf (ps.map dR) = some ps
  | [] => rfl
  | (x, y) :: r => by rw [List.map_cons]; show (pairsOf (r.map dR)).map ((x, y) :: ·) = _; rw [nh r]; rfl
theorem ye {xs os : List Int} {h : Hh} (o : Ord xs.length os) (up : Upk xs os) (h1 : 1 <= xs.length) (h2 : xs.length <= 12) : g_ aD [.frl ((prs xs).map dR)] h = .ok (.frl ((os.map (pq xs)).map dR)) h := by
  have hl : ((prs xs).map dR).length = xs.length := by simp [prs, jl]
  by_cases e : xs.length < 2
  · have e1 : xs.length = 1 := by omega
    have pm := (lQ o).map (pq xs)
    have pe : os.map (pq xs) = prs xs := by
      have l1 : (prs xs).length = 1 := by simp [prs, jl, e1]
      have pm : (os.map (pq xs)).Perm (prs xs) := pm
      match hp : prs xs, l1 with
      | [p], _ => rw [hp] at pm; exact List.perm_singleton.mp pm
    rw [pe]
    delta g_; dsimp only; rw [if_pos (by omega)]; rfl
  · delta g_; dsimp only; rw [if_neg (by omega)]
    delta kY; dsimp only; rw [nh]; dsimp only; rw [if_pos (Bq o up (by omega) h2), yA o up]; rfl
structure Row (xs : List Int) : Prop where
  l1 : 1 <= xs.length
  l2 : xs.length <= 12
  rng : ∀ x ∈ xs, 0 <= x /\ x <= 1000000
noncomputable def RNB : MS := (cQ (dX (aO jI (aj ba (ae (af 1) (ae (cC (.int 0)) (ae (cC (.int 1000000)) aq)))))) rg bI)
theorem Cy : bM = cm 2 (aG (cQ (oM (dX (aO jI (cUn (mY "tuple") (af 0)))) (dX (aO asB (gO dLe dLe (cC (.int 1)) (aj bZ (ae (af 0) aq)) (cC (.int 12)))))) rg bI) (cR (cF (af 0)) (gN 1) RNB)) := rfl
theorem wC {xs : List Int} {h : Hh} (r : Row xs) : bM [.tup (xs.map D.int)] h = .ok .non h := by
  obtain ⟨q, _⟩ := ji (tg := gN 1) (body := RNB) (fun (s : Option D) => [some (.tup (xs.map D.int)), s]) (fun _ => h) D.int (fun s x => some (.int x)) (fun r s => ∀ x ∈ r, 0 <= x /\ x <= 1000000) (fun s x r hr => ⟨fun y hy => hr y (List.mem_cons_of_mem _ hy), .inl (by
      have z := hr x List.mem_cons_self
      simp [RNB, z])⟩) xs none r.rng
  have c1 : (1 : Int) <= xs.length := by have := r.l1; omega
  have c2 : (xs.length : Int) <= 12 := by have := r.l2; omega
  rw [Cy]
  simp [bA, c1, c2, q]
theorem A1 (xs : List Int) : (prs xs).map dR = (List.range xs.length).map fun (i : Nat) => D.tup [.int (gI xs i), .int i] := by
  unfold prs kc
  rw [List.map_map, List.map_map]
  refine List.map_congr_left fun i _ => ?_
  simp [dR, pq]
theorem uY {xs os : List Int} {h : Hh} (r : Row xs) (o : Ord xs.length os) (up : Upk xs os) : bW [.tup (xs.map D.int)] h = .ok (.tup [.tup (os.map D.int), .tup ((os.map fun p => gI xs p.toNat).map D.int)]) h := by
  have l1 := r.l1
  have l2 := r.l2
  have ol := o.len
  have q1 : ck (unp tt1) (unp (aj kz (ae (af 1) (ae (af 0) aq)))) (fun x => [some x]) (dn (xs.map D.int)) h = .ok ((prs xs).map dR) h := by
    rw [j0 (fun i => D.tup [.int (gI xs i), .int i]) (fun i hi => by simp [unp]) (fun i hi => by simp [unp]), A1]
  have q2 : ck (unp tt1) (unp (af 1)) (fun x => [some x]) ((os.map (pq xs)).map dR) h = .ok (os.map D.int) h := by
    rw [iG dR (fun p => D.int p.2) _ _ (fun x hx => by simp [unp, dR]) (fun x hx => by simp [unp, dR]), List.map_map]; rfl
  have q3 : ck (unp tt1) (unp (af 0)) (fun x => [some x]) ((os.map (pq xs)).map dR) h = .ok ((os.map fun p => gI xs p.toNat).map D.int) h := by
    rw [iG dR (fun p => D.int p.1) _ _ (fun x hx => by simp [unp, dR]) (fun x hx => by simp [unp, dR]), List.map_map, List.map_map]; rfl
  have sq := ye (h := h) o up l1 l2
  have z1 : xs.length <= 1000000 := by omega
  have z2 : ((os.map (pq xs)).map dR).length <= 1000000 := by simp; omega
  generalize (os.map (pq xs)).map dR = W at *
  generalize (prs xs).map dR = W2 at *
  simp [bW, bA, wC r, z1, z2, q1, q2, q3, sq]
noncomputable def jE (fs ys : List Int) (i : Nat) : Int := if fs.any (· == (i : Int)) = true then gI ys i + 1 else gI ys i
noncomputable def yC (fs ys : List Int) : Bool := (List.range (ys.length - 1)).all fun i => !decide (gI ys (i + 1) < jE fs ys i)
noncomputable def RBB : MS := (aG (bL 4 (cIf (aO asB (ao (dIn false) (af 3) (af 2))) (ao (bb aD) (ao dIx (af 1) (af 3)) (cC (.int 1))) (ao dIx (af 1) (af 3)))) (cQ (aO asB (ao dLt (ao dIx (af 1) (ao (bb aD) (af 3) (cC (.int 1)))) (af 4))) (bw (cC (.bl false))) bI))
theorem sQ {d0 : Option D} {fs ys : List Int} {h : Hh} : ∀ (l : List Nat) (s3 s4 : Option D), (∀ i ∈ l, i + 1 < ys.length) -> ∃ s3' s4', ((l.all fun i => !decide (gI ys (i + 1) < jE fs ys i)) = true -> cT (gN 3) RBB (l.map fun (i : Nat) => D.int i) [d0, some (.tup (ys.map D.int)), some (.tup (fs.map D.int)), s3, s4] h = .ok (.nx [d0, some (.tup (ys.map D.int)), some (.tup (fs.map D.int)), s3', s4']) h) /\ ((l.all fun i => !decide (gI ys (i + 1) < jE fs ys i)) = false -> cT (gN 3) RBB (l.map fun (i : Nat) => D.int i) [d0, some (.tup (ys.map D.int)), some (.tup (fs.map D.int)), s3, s4] h = .ok (.rt (.bl false)) h)
  | [], s3, s4, _ => ⟨s3, s4, fun _ => rfl, fun z => nomatch z⟩
  | i :: l, s3, s4, k => by
    obtain ⟨s3', s4', e1, e2⟩ := sQ (d0 := d0) (fs := fs) (ys := ys) (h := h) l (some (.int i)) (some (.int (jE fs ys i))) (fun x hx => k x (List.mem_cons_of_mem _ hx))
    have hi := k i List.mem_cons_self
    have x1 : ixK (ys.map D.int) (i : Int) h = .ok (.int (gI ys i)) h := gg rfl (by omega)
    have x2 : ixK (ys.map D.int) ((i : Int) + 1) h = .ok (.int (gI ys (i + 1))) h := gg (by omega) (by omega)
    have b : RBB [d0, some (.tup (ys.map D.int)), some (.tup (fs.map D.int)), some (.int i), s4] h = if gI ys (i + 1) < jE fs ys i then .ok (.rt (.bl false)) h else .ok (.nx [d0, some (.tup (ys.map D.int)), some (.tup (fs.map D.int)), some (.int i), some (.int (jE fs ys i))]) h := by
      unfold jE
      by_cases c : fs.any (· == (i : Int)) = true
      · simp only [if_pos c]
        generalize hA : fs.any (· == (i : Int)) = A at c
        subst c
        by_cases c2 : gI ys (i + 1) < gI ys i + 1 <;> simp [RBB, hA, x1, x2, c2]
      · simp only [if_neg c]
        simp only [Bool.not_eq_true] at c
        generalize hA : fs.any (· == (i : Int)) = A at c
        subst c
        by_cases c2 : gI ys (i + 1) < gI ys i <;> simp [RBB, hA, x1, x2, c2]
    refine ⟨s3', s4', fun z => ?_, fun z => ?_⟩
    · rw [List.all_cons, Bool.and_eq_true] at z
      have c : ¬ gI ys (i + 1) < jE fs ys i := by simpa using z.1
      rw [if_neg c] at b
      rw [List.map_cons, mz]
      simp only [rQ, bN, List.set, b, vR, e1 z.2]
    · rw [List.map_cons, mz]
      simp only [rQ, bN, List.set]
      by_cases c : gI ys (i + 1) < jE fs ys i
      · rw [if_pos c] at b; rw [b]; simp
      · rw [List.all_cons] at z
        rw [if_neg c] at b
        have z' : (l.all fun i => !decide (gI ys (i + 1) < jE fs ys i)) = false := by
          rw [decide_eq_false c, Bool.not_false, Bool.true_and] at z; exact z
        simp only [b, bN, vR, e2 z']
theorem CB : eG = cm 5 (aG (bL 2 (aj bU (ae (af 0) aq))) (aG (cR (jv gx (ae (ao cS (aj bZ (ae (af 1) aq)) (cC (.int 1))) aq)) (gN 3) RBB) (bw (cC (.bl true))))) := rfl
theorem yB {xs ys : List Int} {h : Hh} (hx : 1 <= xs.length) (hx2 : xs.length <= 1000) (hy : 1 <= ys.length) (hy2 : ys.length <= 1000) : eG [.tup (xs.map D.int), .tup (ys.map D.int)] h = .ok (.bl (yC (aY xs) ys)) h := by
  obtain ⟨s3, s4, e1, e2⟩ := sQ (d0 := some (.tup (xs.map D.int))) (fs := aY xs) (ys := ys) (h := h) (List.range (ys.length - 1)) none none (fun i hi => by have := List.mem_range.mp hi; omega)
  have f := lA (h := h) hx2 hx
  have z1 : ((ys.length : Int) - 1).natAbs <= 1000000 := by omega
  have z2 : ((ys.length : Int) - 1).toNat = ys.length - 1 := by omega
  have z3 : ys.length - 1 <= 1000000 := by omega
  have iz := fD (ys.length - 1)
  rw [CB]
  unfold yC
  cases c : ((List.range (ys.length - 1)).all fun i => !decide (gI ys (i + 1) < jE (aY xs) ys i)) with
  | true => simp [bA, f, z1, z2, z3, iz, e1 c]
  | false => simp [bA, f, z1, z2, z3, iz, e2 c]
theorem xA {l : List Int} {i j : Nat} {v : Int} (hj : j < l.length) : gI (l.set i v) j = if i = j then v else gI l j := by
  rw [gC (by simpa using hj), gC hj, List.getElem_set]
theorem wI {os : List Int} {f : Int -> Int} {i : Nat} (h : i < os.length) : gI (os.map f) i = f (gI os i) := by
  rw [gC (by simpa using h), gC h, List.getElem_map]
theorem BR {xs os : List Int} (up : Upk xs os) {i : Nat} (h : i + 1 < os.length) : kq xs (gI os i) < kq xs (gI os (i + 1)) := by
  have := List.pairwise_iff_getElem.mp up i (i + 1) (by omega) h (by omega)
  rwa [gC (by omega), gC h]
theorem AM {n : Nat} {xs os : List Int} (o : Ord n os) (hn : n <= 20) (up : Upk xs os) : yC (aY os) (os.map fun p => gI xs p.toNat) = true := by
  unfold yC
  rw [List.all_eq_true]
  intro i hi
  rw [List.mem_range, List.length_map] at hi
  have hl := o.len
  have u := BR up (i := i) (by omega)
  have a0 := o.lo _ (jN (ns := os) (j := i) (by omega))
  have a1 := o.hi _ (jN (ns := os) (j := i) (by omega))
  have b0 := o.lo _ (jN (ns := os) (j := i + 1) (by omega))
  have b1 := o.hi _ (jN (ns := os) (j := i + 1) (by omega))
  have z : ¬ gI (os.map fun p => gI xs p.toNat) (i + 1) < jE (aY os) (os.map fun p => gI xs p.toNat) i := by
    unfold jE
    rw [wI (by omega), wI (by omega)]
    unfold kq at u
    split
    · rename_i c
      obtain ⟨x, hx, e⟩ := List.any_eq_true.mp c
      simp only [beq_iff_eq] at e
      subst e
      simp only [aY, oN, List.mem_map, List.mem_filter, List.mem_range] at hx
      obtain ⟨a, ⟨_, c2⟩, e2⟩ := hx
      have : a = i := by omega
      subst this
      simp only [decide_eq_true_eq] at c2
      omega
    · omega
  simpa using z
theorem qj {xs : List Int} : ∀ (os r0 : List Int), r0.length = xs.length -> (∀ i, i < xs.length -> (i : Int) ∈ os \/ gI r0 i = gI xs i) -> (∀ p ∈ os, 0 <= p) -> os.foldl (fun (r : List Int) p => r.set p.toNat (gI xs p.toNat)) r0 = xs
  | [], r0, hl, h, _ => C2 hl fun i hi => by
    have hi : i < r0.length := hi
    rcases h i (by omega) with z | z
    · cases z
    · exact z
  | p :: os, r0, hl, h, nn => by
    rw [List.foldl_cons]
    refine qj os _ (by simp [hl]) (fun i hi => ?_) (fun q hq => nn q (List.mem_cons_of_mem _ hq))
    have p0 := nn p List.mem_cons_self
    by_cases e : p.toNat = i
    · right; rw [xA (by omega), if_pos e, e]
    · rcases h i hi with z | z
      · rcases List.mem_cons.mp z with z | z
        · exfalso; apply e; omega
        · exact .inl z
      · right; rw [xA (by omega), if_neg e, z]
theorem zip_map (os : List Int) (f : Int -> Int) : je (os.map D.int) ((os.map f).map D.int) = os.map fun p => D.tup [.int p, .int (f p)] := by
  induction os with
  | nil => rfl
  | cons x r ih =>
    rw [List.map_cons, List.map_cons, List.map_cons, List.map_cons, <- ih]; rfl
theorem Row.ys {xs os : List Int} (r : Row xs) (o : Ord xs.length os) : Row (os.map fun p => gI xs p.toNat) := by
  have l1 := r.l1
  have l2 := r.l2
  have ol := o.len
  refine ⟨by simp; omega, by simp; omega, fun x hx => ?_⟩
  obtain ⟨p, hp, rfl⟩ := List.mem_map.mp hx
  have := o.lo p hp
  have := o.hi p hp
  exact r.rng _ (jN (by omega))
theorem uw {xs os : List Int} {h : Hh} (r : Row xs) (o : Ord xs.length os) (up : Upk xs os) (w : Wf h) : cD [.tup (os.map D.int), .tup ((os.map fun p => gI xs p.toNat).map D.int)] h = .ok (.tup (xs.map D.int)) h := by
  have l1 := r.l1
  have l2 := r.l2
  have ol := o.len
  have oe := nK (h := h) o l1 (by omega) w
  have rn := wC (h := h) (r.ys o)
  have ri := yB (xs := os) (ys := os.map fun p => gI xs p.toNat) (h := h) (by omega) (by omega) (by simp; omega) (by simp; omega)
  rw [AM o (by omega) up] at ri
  have el : ((os.map fun p => gI xs p.toNat).length : Int) = os.length := by simp
  obtain ⟨q, _⟩ := ji (tg := gT2 3 4) (body := e_ dF (af 2) (af 3) (af 4)) (fun (s : List Int × Option D × Option D) => [some (.tup (os.map D.int)), some (.tup ((os.map fun p => gI xs p.toNat).map D.int)), some (.ref h.length), s.2.1, s.2.2]) (fun s => h ++ [.lst (s.1.map D.int)]) (fun p => D.tup [.int p, .int (gI xs p.toNat)])
    (fun s p => (s.1.set p.toNat (gI xs p.toNat), some (.int p), some (.int (gI xs p.toNat)))) (fun l s => s.1.length = xs.length /\ ∀ p ∈ l, 0 <= p /\ p < xs.length) (fun s p l ⟨hs, hp⟩ => by
      refine ⟨⟨by simp [hs], fun q hq => hp q (List.mem_cons_of_mem _ hq)⟩, .inl ?_⟩
      obtain ⟨p0, p1⟩ := hp p List.mem_cons_self
      have n2 : ixN (s.1.map D.int).length p = some p.toNat := by rw [List.length_map]; exact s_ (by omega) (by omega)
      have st : dF (.ref h.length) (.int p) (.int (gI xs p.toNat)) (h ++ [.lst (s.1.map D.int)]) = .ok () (h ++ [.lst ((s.1.set p.toNat (gI xs p.toNat)).map D.int)]) := by
        rw [jb hW n2, kG, List.map_set]
      simp [st]) os (List.replicate xs.length 0, none, none) ⟨by simp, fun p hp => ⟨o.lo p hp, o.hi p hp⟩⟩
  have key : ∀ (l : List Int) (s : List Int × Option D × Option D), (l.foldl (fun (s : List Int × Option D × Option D) p => (s.1.set p.toNat (gI xs p.toNat), some (D.int p), some (D.int (gI xs p.toNat)))) s).1 = l.foldl (fun (r : List Int) p => r.set p.toNat (gI xs p.toNat)) s.1 := by
    intro l
    induction l with
    | nil => intro s; rfl
    | cons p l ih => intro s; rw [List.foldl_cons, List.foldl_cons, ih]
  have fin : (os.foldl (fun (s : List Int × Option D × Option D) p => (s.1.set p.toNat (gI xs p.toNat), some (D.int p), some (D.int (gI xs p.toNat)))) (List.replicate xs.length 0, none, none)).1 = xs := by
    rw [key]
    exact qj os _ (by simp) (fun i hi => .inl (nY o (by omega) (by omega))) (fun p hp => o.lo p hp)
  dsimp only at q
  rw [fin, <- zip_map] at q
  generalize hys : (os.map fun p => gI xs p.toNat) = ys at *
  have z1 : os.length <= 1000000 := by omega
  have z3 : ((os.length : Nat) : Int).natAbs <= 1000000 := by omega
  have ex := iM (h := h) (t := [.lst (xs.map D.int)]) (d := .tup (xs.map D.int)) w (by simp)
  rw [<- ol, List.map_replicate] at q
  simp [cD, bA, oe, rn, el, ri, z1, z3, q, ex]
noncomputable def bQ (x : Nat) : Nat -> List (List Int)
  | 0 => [[]]
  | n + 1 => (bQ x n).flatMap fun r => (List.range x).map fun (v : Nat) => r ++ [(v : Int)]
theorem iL {x : Nat} : ∀ n, ∀ r ∈ bQ x n, r.length = n /\ ∀ v ∈ r, 0 <= v /\ v < x
  | 0, r, h => by simp [bQ] at h; subst h; simp
  | n + 1, r, h => by
    obtain ⟨q, hq, h⟩ := List.mem_flatMap.mp h
    obtain ⟨v, hv, rfl⟩ := List.mem_map.mp h
    have k := iL n q hq
    have hv := List.mem_range.mp hv
    refine ⟨by simp [k.1], fun u hu => ?_⟩
    rcases List.mem_append.mp hu with z | z
    · exact k.2 u z
    · simp only [List.mem_singleton] at z; subst z; omega
theorem qm {x X : Nat} (hx : x <= X) : ∀ n, ∀ r ∈ bQ x n, r ∈ bQ X n
  | 0, r, h => h
  | n + 1, r, h => by
    obtain ⟨q, hq, h⟩ := List.mem_flatMap.mp h
    obtain ⟨v, hv, rfl⟩ := List.mem_map.mp h
    exact List.mem_flatMap.mpr ⟨q, qm hx n q hq, List.mem_map.mpr ⟨v, List.mem_range.mpr (by have := List.mem_range.mp hv; omega), rfl⟩⟩
theorem i4 (x : Nat) : ∀ n, (bQ x n).length = x ^ n
  | 0 => rfl
  | n + 1 => by
    have key : ∀ L : List (List Int), (L.flatMap fun r => (List.range x).map fun (v : Nat) => r ++ [(v : Int)]).length = L.length * x := fun L => by
      induction L with
      | nil => simp
      | cons a L ih => rw [List.flatMap_cons, List.length_append, ih, List.length_map, List.length_range, List.length_cons, Nat.succ_mul]; omega
    show (List.flatMap _ _).length = _
    rw [key, i4 x n, Nat.pow_succ]
noncomputable def m_ (xs : List Int) (p : Int) : List Int -> List Int
  | [] => [p]
  | q :: r => if kq xs q < kq xs p then q :: m_ xs p r else p :: q :: r
noncomputable def bS (xs : List Int) : List Int := (kc 0 xs.length).foldr (m_ xs) []
noncomputable def okR (xs : List Int) : Bool := decide ((bS xs).length = xs.length) && decide ((bS xs).Nodup) && (bS xs).all (fun a => decide (0 <= a /\ a < xs.length)) && decide ((bS xs).Pairwise fun a b => kq xs a < kq xs b)
theorem ok1 : (bQ 7 1).all okR = true := by decide +kernel
theorem ok2 : (bQ 7 2).all okR = true := by decide +kernel
theorem ok3 : (bQ 6 3).all okR = true := by decide +kernel
theorem ok4 : (bQ 5 4).all okR = true := by decide +kernel
noncomputable def mxX (n : Nat) : Nat := if n <= 2 then 7 else if n = 3 then 6 else 5
theorem C4 {n x : Nat} {xs : List Int} (h1 : 1 <= n) (hn : n <= 4) (hx : x <= mxX n) (hm : xs ∈ bQ x n) : Ord xs.length (bS xs) /\ Upk xs (bS xs) := by
  have e : okR xs = true := by
    have hm := qm hx n xs hm
    match n, h1, hn with
    | 1, _, _ => exact List.all_eq_true.mp ok1 xs hm
    | 2, _, _ => exact List.all_eq_true.mp ok2 xs hm
    | 3, _, _ => exact List.all_eq_true.mp ok3 xs hm
    | 4, _, _ => exact List.all_eq_true.mp ok4 xs hm
  unfold okR at e
  rw [Bool.and_eq_true, Bool.and_eq_true, Bool.and_eq_true, decide_eq_true_eq, decide_eq_true_eq, decide_eq_true_eq, List.all_eq_true] at e
  obtain ⟨⟨⟨a, b⟩, c⟩, d⟩ := e
  exact ⟨⟨a, b, fun z hz => (of_decide_eq_true (c z hz)).1, fun z hz => (of_decide_eq_true (c z hz)).2⟩, d⟩
noncomputable abbrev CT := List (List Int × Int)
noncomputable def h7 : CT -> List Int -> Option Int
  | [], _ => none
  | p :: r, k => if p.1 = k then some p.2 else h7 r k
noncomputable def km (C : CT) (k : List Int) (v : Int) : CT := if (C.any fun kv => decide (kv.1 = k)) = true then C.map (fun kv => if kv.1 = k then (kv.1, v) else kv) else C ++ [(k, v)]
noncomputable def eK (k : List Int) : List Key := k.map Sum.inl
noncomputable def encC (C : CT) : List (List Key × D) := C.map fun p => (eK p.1, .int p.2)
theorem o7 : ∀ {a b : List Int}, eK a = eK b -> a = b
  | [], [], _ => rfl
  | [], _ :: _, h => by simp [eK] at h
  | _ :: _, [], h => by simp [eK] at h
  | a :: r, b :: t, h => by
    unfold eK at h
    rw [List.map_cons, List.map_cons] at h
    obtain ⟨h1, h2⟩ := List.cons.inj h
    cases h1
    rw [o7 h2]
theorem AJ (a b : List Int) : decide (eK a = eK b) = decide (a = b) := by
  by_cases c : a = b
  · rw [c]; simp
  · have : ¬ eK a = eK b := fun z => c (o7 z)
    simp [c, this]
theorem lq (k : List Int) : ∀ C : CT, pJ (encC C) (eK k) = (h7 C k).map D.int
  | [] => rfl
  | p :: r => by
    show (if eK p.1 = eK k then some (D.int p.2) else pJ (encC r) (eK k)) = (if p.1 = k then some p.2 else h7 r k).map D.int
    by_cases c : p.1 = k
    · rw [if_pos c, if_pos (by rw [c])]; rfl
    · rw [if_neg c, if_neg (fun z => c (o7 z)), lq k r]
theorem wj (C : CT) (k : List Int) (v : Int) : vK (encC C) (eK k) (.int v) = encC (km C k v) := by
  have a : ((encC C).any fun kv => decide (kv.1 = eK k)) = C.any fun kv => decide (kv.1 = k) := by
    unfold encC
    rw [List.any_map]
    congr 1
    funext p
    exact AJ p.1 k
  unfold vK km
  rw [a]
  by_cases c : (C.any fun kv => decide (kv.1 = k)) = true
  · rw [if_pos c, if_pos c]
    unfold encC
    rw [List.map_map, List.map_map]
    refine List.map_congr_left fun p _ => ?_
    show (if eK p.1 = eK k then (eK p.1, D.int v) else (eK p.1, .int p.2)) = ((eK (if p.1 = k then (p.1, v) else p).1), D.int (if p.1 = k then (p.1, v) else p).2)
    by_cases z : p.1 = k
    · rw [if_pos z, if_pos (by rw [z])]
    · rw [if_neg z, if_neg (fun q => z (o7 q))]
  · rw [if_neg c, if_neg c]
    unfold encC
    rw [List.map_append]; rfl
theorem nQ : ∀ o : List Int, kQ (o.map D.int) = some (eK o)
  | [] => rfl
  | a :: r => by
    have := nQ r
    rw [List.map_cons]
    unfold kQ
    rw [this]; rfl
theorem mq (o : List Int) : qU (.tup (o.map D.int)) = some (eK o) := nQ o
theorem wA (o : List Int) : tupK (eK o) = .tup (o.map D.int) := by
  unfold tupK eK
  rw [List.map_map]; rfl
noncomputable def gn (s : CT × List Int) (xs : List Int) : CT × List Int := (km s.1 (bS xs) ((h7 s.1 (bS xs)).getD 0 + 1), s.2.set (aY (bS xs)).length (gI s.2 (aY (bS xs)).length + 1))
noncomputable def frN (n : Nat) (k : Nat -> Bool) : Bool := Nat.rec (k 0) (fun m _ => k (m + 1)) n
theorem AA (n : Nat) (k : Nat -> Bool) : frN n k = k n := by cases n <;> rfl
noncomputable def frI (x : Int) (k : Int -> Bool) : Bool := match x with
  | .ofNat n => frN n fun m => k (.ofNat m)
  | .negSucc n => k (.negSucc n)
theorem ve (x : Int) (k : Int -> Bool) : frI x k = k x := by
  cases x with
  | ofNat n => exact AA n fun m => k (.ofNat m)
  | negSucc n => rfl
noncomputable def frL : List Int -> (List Int -> Bool) -> Bool
  | [], k => k []
  | x :: xs, k => frI x fun y => frL xs fun ys => k (y :: ys)
theorem pD : ∀ (l : List Int) (k : List Int -> Bool), frL l k = k l
  | [], k => rfl
  | x :: xs, k => by unfold frL; rw [ve, pD]
noncomputable def frC : CT -> (CT -> Bool) -> Bool
  | [], k => k []
  | x :: xs, k => frI x.2 fun y => frC xs fun ys => k ((x.1, y) :: ys)
theorem vf : ∀ (l : CT) (k : CT -> Bool), frC l k = k l
  | [], k => rfl
  | x :: xs, k => by unfold frC; rw [ve, vf]
noncomputable def sE : List (List Int) -> CT -> List Int -> (CT -> List Int -> Bool) -> Bool
  | [], C, F, k => k C F
  | xs :: r, C, F, k => frL xs fun xs => frL (bS xs) fun o => frC (km C o ((h7 C o).getD 0 + 1)) fun C' => frL (F.set (aY o).length (gI F (aY o).length + 1)) fun F' => sE r C' F' k
theorem p4 : ∀ (rs : List (List Int)) (C : CT) (F : List Int) (k : CT -> List Int -> Bool), sE rs C F k = k (rs.foldl gn (C, F)).1 (rs.foldl gn (C, F)).2
  | [], C, F, k => rfl
  | xs :: r, C, F, k => by
    unfold sE
    rw [pD, pD, vf, pD, p4 r]
    rfl
noncomputable def jQ (x n : Nat) : List Int := (List.range (n + 1)).map fun k => gI (h9 n) k * (ch (x + k) (n + 1) : Int)
noncomputable def gz (x n : Nat) : List Int := (List.range (n + 1)).map fun k => gI (h9 n) k * (ch (x + k + 1) (n + 2) : Int)
noncomputable def ckX (n x : Nat) : Bool := sE (bQ x n) [] (List.replicate n 0) fun C F => (C.all fun p => decide (p.1.length = n) && decide (p.1.Nodup) && (p.1.all fun a => decide (0 <= a /\ a < n)) && decide (h7 C p.1 = some (ch (x + n - 1 - (aY p.1).length) n : Int)) && decide ((aY p.1).length + 1 <= x + n)) && (F == (jQ x (n - 1)).reverse) && ((x == 0) || decide ((gz x (n - 1)).sum - (gz (x - 1) (n - 1)).sum = ((x ^ n : Nat) : Int)))
theorem ck1 : (List.range 8).all (ckX 1) = true := by decide +kernel
theorem ck2 : (List.range 8).all (ckX 2) = true := by decide +kernel
theorem ck3 : (List.range 7).all (ckX 3) = true := by decide +kernel
theorem ck4 : (List.range 6).all (ckX 4) = true := by decide +kernel
theorem Cw {n x : Nat} (h1 : 1 <= n) (hn : n <= 4) (hx : x <= mxX n) : ckX n x = true := by
  match n, h1, hn with
  | 1, _, _ => exact List.all_eq_true.mp ck1 x (List.mem_range.mpr (by have : x <= 7 := hx; omega))
  | 2, _, _ => exact List.all_eq_true.mp ck2 x (List.mem_range.mpr (by have : x <= 7 := hx; omega))
  | 3, _, _ => exact List.all_eq_true.mp ck3 x (List.mem_range.mpr (by have : x <= 6 := hx; omega))
  | 4, _, _ => exact List.all_eq_true.mp ck4 x (List.mem_range.mpr (by have : x <= 5 := hx; omega))
theorem ym {x n : Nat} {h : Hh} (hx : x <= 1000000) (hn : n <= 30) : fG [.int x, .int n] h = .ok (.int (ch x n)) h := by
  have z1 : 0 <= (x : Int) /\ (x : Int) <= 1000000 := by omega
  have z2 : 0 <= (n : Int) /\ (n : Int) <= 30 := by omega
  simp [fG, bA, z1, z2, rT (h := h) (show x <= 1000100 by omega) (show n <= 40 by omega)]
theorem wK {x n : Nat} {h : Hh} (hx : x <= 1000000) (hn : n < 20) : bG [.int x, .int ((n : Int) + 1)] h = .ok (.frl ((jQ x n).map D.int)) h := by
  have z1 : 0 <= (x : Int) /\ (x : Int) <= 1000000 := by omega
  have z2 : 1 <= (n : Int) + 1 /\ (n : Int) + 1 <= 20 := by omega
  have hl := eB n
  have z3 : n + 1 <= 1000000 := by omega
  have q := j0 (h := h) (ns := h9 n) (te := unp (ao (dM aD) (af 1) (aj br (ae (ao (bb aD) (af 2) (af 0)) (ae (af 3) aq))))) (ee := fun d => [some d, some (.int x), some (.int ((n : Int) + 1))]) (fun k => D.int (gI (h9 n) k * (ch (x + k) (n + 1) : Int))) (fun i hi => by simp) (fun i hi => by
    have a := rT (h := h) (x := x + i) (n := n + 1) (by omega) (by omega)
    rw [Int.natCast_add, Int.natCast_add] at a
    have s1 := rj (lD (jS n (by omega)).2 i)
    have s2 := rV (n := x + i) (i := n + 1) (by omega) (by omega)
    simp only [Int.natCast_one] at a
    simp [a, s1, s2])
  simp [bG, bF, bA, z1, z2, zS (h := h) (show n < 30 by omega), hl, z3, q]
  simp [jQ, hl]
theorem A8 {x n : Nat} {h : Hh} {g : MF} (hg : ∀ (a b : Nat) (H : Hh), a <= 1000100 -> b <= 40 -> g [.int a, .int b] H = .ok (.int (ch a b)) H) (hx : x <= 1000000) (hn : n < 20) : ck (unp tt1) (unp (ao (dM aD) (af 1) (aj g (ae (ao (bb aD) (ao (bb aD) (af 2) (af 0)) (cC (.int 1))) (ae (ao (bb aD) (af 3) (cC (.int 1))) aq))))) (fun d => [some d, some (.int x), some (.int ((n : Int) + 1))]) (dn ((h9 n).map D.int)) h = .ok ((gz x n).map D.int) h := by
  have hl := eB n
  have q := j0 (h := h) (ns := h9 n) (te := unp (ao (dM aD) (af 1) (aj g (ae (ao (bb aD) (ao (bb aD) (af 2) (af 0)) (cC (.int 1))) (ae (ao (bb aD) (af 3) (cC (.int 1))) aq))))) (ee := fun d => [some d, some (.int x), some (.int ((n : Int) + 1))]) (fun k => D.int (gI (h9 n) k * (ch (x + k + 1) (n + 2) : Int))) (fun i hi => by simp) (fun i hi => by
    have a := hg (x + i + 1) (n + 2) h (by omega) (by omega)
    rw [Int.natCast_add, Int.natCast_add, show ((n + 2 : Nat) : Int) = (n : Int) + 1 + 1 by omega] at a
    have s1 := rj (lD (jS n (by omega)).2 i)
    have s2 := rV (n := x + i + 1) (i := n + 2) (by omega) (by omega)
    simp only [Int.natCast_one] at a
    simp [a, s1, s2])
  rw [q, hl]
  simp [gz]
theorem wc {x n : Nat} {h : Hh} (hx : x <= 1000000) (hn : n < 20) : dj [.int x, .int ((n : Int) + 1)] h = .ok (.frl ((gz x n).map D.int)) h := by
  have z1 : 0 <= (x : Int) /\ (x : Int) <= 1000000 := by omega
  have z2 : 1 <= (n : Int) + 1 /\ (n : Int) + 1 <= 20 := by omega
  have hl := eB n
  have z3 : n + 1 <= 1000000 := by omega
  have q := A8 (h := h) (g := br) (fun a b H ha hb => rT ha hb) hx hn
  simp [dj, bF, bA, z1, z2, zS (h := h) (show n < 30 by omega), hl, z3, q]
theorem vA {x n : Nat} {h : Hh} (hx : x <= 1000000) (hn : n < 20) : aZ [.int x, .int ((n : Int) + 1)] h = .ok (.int (gz x n).sum) h := by
  simp [aZ, bA, wc (h := h) hx hn]
theorem yl {x n : Nat} (hx : x <= 1000100) (hn : n <= 41) : sml ((x : Int) ^ n) = true := by
  refine pP ?_
  rw [<- Int.natCast_pow, Int.natAbs_natCast]
  refine Nat.le_trans (Nat.pow_le_pow_left (show x <= 10 ^ 7 by omega) n) (Nat.le_trans (Nat.pow_le_pow_right (by decide) hn) (by decide +kernel))
theorem wt {x n : Nat} {h : Hh} (hx : x <= 1000100) (hn : n <= 40) : bO [.int x, .int n] h = .ok (.int ((x : Int) ^ n)) h := by
  obtain ⟨q, e⟩ := sL (tg := gN 3) (body := bL 2 (ao (dM aD) (af 2) (af 0))) n
    (fun (s : Nat × Option D) => [some (.int x), some (.int n), some (.int ((x : Int) ^ s.1)), s.2]) (fun _ => h) (fun _ i => (i + 1, some (.int (i : Nat)))) (fun i s => s.1 = i) (0, none) rfl (fun i s hi hs => ⟨rfl, .inl (by
      subst hs
      have s1 := yl hx (show s.1 <= 41 by omega)
      have s2 : sml (x : Int) = true := cX (by omega) (by omega)
      simp [s1, s2, Int.pow_succ])⟩)
  generalize List.foldl (fun (_ : Nat × Option D) i => (i + 1, some (D.int (i : Nat)))) (0, none) (List.range n) = s9 at q e
  subst e
  have z1 : s9.1 <= 1000000 := by omega
  simp [bO, bA, z1] at q ⊢
  simp [q]
noncomputable def tpI (b : List Int) : D := .tup (b.map D.int)
noncomputable def EXB : MS := (dI (lg fJ (af 7) (ae (dk aD (jv gx (ae (af 4) aq)) [8] tt1 (ao (bb aD) (af 1) (aj kz (ae (af 0) aq)))) aq)))
noncomputable def lng (x : Nat) (r : List Int) : List (List Int) := (List.range x).map fun (v : Nat) => r ++ [(v : Int)]
theorem As {x : Nat} {r : List Int} {acc : List (List Int)} {H : Hh} {d0 d1 d2 d3 d5 d6 d9 d10 d11 d12 : Option D} (hx : x <= 7) (hr : r.length <= 10) (ha : acc.length <= 1000) : EXB [d0, d1, d2, d3, some (.int x), d5, d6, some (.ref H.length), some (tpI r), d9, d10, d11, d12] (H ++ [.lst (acc.map tpI)]) = .ok (.nx [d0, d1, d2, d3, some (.int x), d5, d6, some (.ref H.length), some (tpI r), d9, d10, d11, d12]) (H ++ [.lst ((acc ++ lng x r).map tpI)]) := by
  have q : ck tt1 (ao (bb aD) (af 1) (aj kz (ae (af 0) aq))) (fun e => [some e, some (tpI r)]) (dJ 0 x) (H ++ [.lst (acc.map tpI)]) = .ok ((lng x r).map tpI) (H ++ [.lst (acc.map tpI)]) := by
    rw [nP (fun (v : Nat) => tpI (r ++ [(v : Int)])) (fun i hi => by
      have z : (r.map D.int).length + 1 <= 1000000 := by simp; omega
      unfold tpI
      rw [List.map_append]
      generalize r.map D.int = W at *
      simp [z]), lng, List.map_map]
    rfl
  have ex := uV (h := H ++ [.lst (acc.map tpI)]) (n := H.length) (xs := acc.map tpI) (ys := (lng x r).map tpI) (d := .frl ((lng x r).map tpI)) hW rfl
  have ll : (acc.map tpI).length + ((lng x r).map tpI).length <= 1000000 := by simp [lng]; omega
  rw [if_pos ll, kG, <- List.map_append] at ex
  have z1 : x <= 1000000 := by omega
  generalize (acc ++ lng x r).map tpI = W2 at *
  generalize (lng x r).map tpI = W1 at *
  generalize acc.map tpI = W0 at *
  generalize tpI r = TR at *
  simp [EXB, z1, q, ex]
inductive At (L : List (List Int)) (H : Hh) : D -> Prop where
  | frl : At L H (.frl (L.map tpI))
  | ref {k : Nat} : k < H.length -> ax H k = some (L.map tpI) -> At L H (.ref k)
theorem pG {H : Hh} {k : Nat} {ds : List D} {t : Hh} (hk : k < H.length) (e : ax H k = some ds) : ax (H ++ t) k = some ds := by
  unfold ax at e ⊢
  rw [List.getElem?_append_left hk]; exact e
theorem wV {x : Nat} {L : List (List Int)} {H : Hh} {d : D} {d0 d1 d2 d3 d6 y8 d9 d10 d11 d12 : Option D} (hx : x <= 7) (hL : ∀ r ∈ L, r.length <= 10) (hl : L.length * 7 <= 1000) (a : At L H d) : ∃ y8', cR (cF (af 5)) (gN 8) EXB [d0, d1, d2, d3, some (.int x), some d, d6, some (.ref H.length), y8, d9, d10, d11, d12] (H ++ [.lst []]) = .ok (.nx [d0, d1, d2, d3, some (.int x), some d, d6, some (.ref H.length), y8', d9, d10, d11, d12]) (H ++ [.lst ((L.flatMap (lng x)).map tpI)]) := by
  have fl : ∀ i, ((L.take i).flatMap (lng x)).length <= i * 7 := fun i => by
    have key : ∀ M : List (List Int), (M.flatMap (lng x)).length <= M.length * 7 := fun M => by
      induction M with
      | nil => simp
      | cons b M ih => rw [List.flatMap_cons, List.length_append, List.length_cons]; simp only [lng, List.length_map, List.length_range] at ih ⊢; omega
    have := key (L.take i)
    have := List.length_take_le i L
    omega
  have st : ∀ i (s : List (List Int) × Option D), i < L.length -> s.1 = (L.take i).flatMap (lng x) -> ∃ s' : List (List Int) × Option D, s'.1 = (L.take (i + 1)).flatMap (lng x) /\ (gN 8 (tpI (L.getD i [])) [d0, d1, d2, d3, some (.int x), some d, d6, some (.ref H.length), s.2, d9, d10, d11, d12] (H ++ [.lst (s.1.map tpI)])).bind EXB = .ok (.nx [d0, d1, d2, d3, some (.int x), some d, d6, some (.ref H.length), s'.2, d9, d10, d11, d12]) (H ++ [.lst (s'.1.map tpI)]) := fun i s hi hs => by
    have hm : L.getD i [] ∈ L := by rw [List.getD_eq_getElem?_getD, List.getElem?_eq_getElem hi]; exact List.getElem_mem hi
    have e : L.take (i + 1) = L.take i ++ [L.getD i []] := by
      rw [List.take_succ_eq_append_getElem hi, List.getD_eq_getElem?_getD, List.getElem?_eq_getElem hi]; rfl
    refine ⟨(s.1 ++ lng x (L.getD i []), some (tpI (L.getD i []))), by rw [e, List.flatMap_append, hs]; simp, ?_⟩
    simp only [rQ, bN, List.set]
    have := fl i
    exact As hx (hL _ hm) (by rw [hs]; omega)
  have lm : (L.map tpI) = (List.range' 0 L.length).map fun (i : Nat) => tpI (L.getD i []) := by
    refine List.ext_getElem (by simp) fun i h1 h2 => ?_
    have hi : i < L.length := by simpa using h1
    simp [List.getElem?_eq_getElem hi]
  cases a with
  | frl =>
    obtain ⟨s, q, e⟩ := sI (σ := List (List Int) × Option D) (tg := gN 8) (body := EXB) (fun (i : Nat) => tpI (L.getD i [])) L.length (fun s => [d0, d1, d2, d3, some (.int x), some (.frl (L.map tpI)), d6, some (.ref H.length), s.2, d9, d10, d11, d12]) (fun s => H ++ [.lst (s.1.map tpI)]) (fun i s => s.1 = (L.take i).flatMap (lng x)) st L.length 0 ([], y8) (by omega) (by simp)
    obtain ⟨acc, y⟩ := s
    dsimp only at q e
    rw [List.take_length] at e
    subst e
    rw [<- lm] at q
    refine ⟨y, ?_⟩
    generalize L.map tpI = W at *
    simpa using q
  | @ref k hk ek =>
    have rd : ∀ t : Hh, ax (H ++ t) k = some (L.map tpI) := fun t => pG hk ek
    obtain ⟨s, q, e⟩ := tw (σ := List (List Int) × Option D) (rd := (Src.live k).rdr) (tg := gN 8) (body := EXB) (fun (i : Nat) => tpI (L.getD i [])) L.length (fun s => [d0, d1, d2, d3, some (.int x), some (.ref k), d6, some (.ref H.length), s.2, d9, d10, d11, d12]) (fun s => H ++ [.lst (s.1.map tpI)]) (fun i s => s.1 = (L.take i).flatMap (lng x)) (fun s i hi => by simp [Src.rdr, rd, List.getElem?_eq_getElem hi]) (fun s => by simp [Src.rdr, rd]) st L.length 0 ([], y8) (by omega) (by simp)
    obtain ⟨acc, y⟩ := s
    dsimp only at q e
    rw [List.take_length] at e
    subst e
    refine ⟨y, ?_⟩
    rw [zA]
    have sq : cF (af 5) [d0, d1, d2, d3, some (.int x), some (.ref k), d6, some (.ref H.length), y8, d9, d10, d11, d12] (H ++ [.lst []]) = .ok (.live k) (H ++ [.lst []]) := zP (rd _)
    rw [sq, bN]
    show gp (Src.live k).rdr (gN 8) EXB ((ax (H ++ [.lst []]) k).getD []).length 0 _ _ = _
    rw [rd, Option.getD_some, List.length_map]
    exact q
theorem jH (k : Nat) (h : Hh) : ∀ xs ys : List Int, eqL (eqD (k + 1) h) (xs.map D.int) (ys.map D.int) = some (decide (xs = ys))
  | [], [] => rfl
  | [], y :: ys => rfl
  | x :: xs, [] => rfl
  | x :: xs, y :: ys => by
    have ih := jH k h xs ys
    have e1 : eqD (k + 1) h (.int x) (.int y) = some (x == y) := rfl
    simp only [List.map_cons, eqL, e1, ih]
    by_cases a : x = y <;> by_cases b : xs = ys <;> simp [a, b]
theorem uz : ∀ n, n < 5 -> ∀ x, x < 8 -> ∀ i, i < 4 -> x <= mxX n -> i < n -> x ^ i * 7 <= 1000 := by decide
noncomputable def TNB : MS := (aG (bL 7 (aj (eO lJ) aq)) (aG (cR (cF (af 5)) (gN 8) EXB) (bL 5 (af 7))))
theorem Ap {k : Nat} {L : List (List Int)} : qy k (.lst (L.map tpI)) = true := by
  show bT k (L.map tpI) = true
  exact hX fun b => by simp [tpI, iE]
theorem ur {n x : Nat} {G : Hh} {d0 d1 d2 d3 y6 y7 y8 d9 d10 d11 d12 : Option D} (hn : n <= 4) (hx : x <= mxX n) (w : Wf G) : ∃ T d5 y6' y7' y8', Wf (G ++ T) /\ At (bQ x n) (G ++ T) d5 /\ (1 <= n -> ∃ k, d5 = .ref k) /\ cT (gN 6) TNB (dJ 0 n) [d0, d1, d2, d3, some (.int x), some (.frl [.tup []]), y6, y7, y8, d9, d10, d11, d12] G = .ok (.nx [d0, d1, d2, d3, some (.int x), some d5, y6', y7', y8', d9, d10, d11, d12]) (G ++ T) := by
  have x7 : x <= 7 := by
    have : mxX n <= 7 := by unfold mxX; split <;> (try split) <;> omega
    omega
  obtain ⟨s, q, e⟩ := sI (σ := Hh × D × Option D × Option D × Option D) (tg := gN 6) (body := TNB) (fun (i : Nat) => D.int i) n (fun s => [d0, d1, d2, d3, some (.int x), some s.2.1, s.2.2.1, s.2.2.2.1, s.2.2.2.2, d9, d10, d11, d12]) (fun s => G ++ s.1) (fun i s => Wf (G ++ s.1) /\ At (bQ x i) (G ++ s.1) s.2.1 /\ (1 <= i -> ∃ k, s.2.1 = .ref k)) (fun i s hi hs => by
    obtain ⟨T, d, y6, y7, y8⟩ := s
    obtain ⟨w, a, _⟩ := hs
    dsimp only at w a ⊢
    have hb := uz n (by omega) x (by omega) i (by omega) hx hi
    obtain ⟨y8', q⟩ := wV (d0 := d0) (d1 := d1) (d2 := d2) (d3 := d3) (d6 := some (.int i)) (y8 := y8) (d9 := d9) (d10 := d10) (d11 := d11) (d12 := d12) (x := x) x7 (fun r hr => by rw [(iL i r hr).1]; omega) (by rw [i4]; exact hb) a
    have hR : (bQ x i).flatMap (lng x) = bQ x (i + 1) := rfl
    rw [hR] at q
    refine ⟨(T ++ [.lst ((bQ x (i + 1)).map tpI)], .ref (G ++ T).length, some (.int i), some (.ref (G ++ T).length), y8'), ⟨by rw [<- List.append_assoc]; exact w.app Ap, ?_, fun _ => ⟨_, rfl⟩⟩, ?_⟩
    · dsimp only
      rw [<- List.append_assoc]
      exact .ref (by simp) hW
    · dsimp only
      rw [<- List.append_assoc]
      generalize G ++ T = H at *
      generalize (bQ x (i + 1)).map tpI = W at *
      simp only [rQ, bN, List.set]
      simp [-zA, TNB, q]) n 0 ([], .frl [.tup []], y6, y7, y8) (by omega) ⟨by simpa using w, .frl, fun h => by omega⟩
  obtain ⟨T, d, y6', y7', y8'⟩ := s
  dsimp only at q e
  exact ⟨T, d, y6', y7', y8', e.1, e.2.1, e.2.2, by rw [AL]; simpa using q⟩
theorem kH {H : Hh} {kvs : List (List Key × D)} {t : Hh} : cI (H ++ .dit kvs :: t) H.length = some kvs := by
  unfold cI; rw [List.getElem?_append_right (Nat.le_refl _)]; simp
theorem Aq {n : Nat} {ns : List Int} {i : Int} {j : Nat} {h : Hh} (e : ax h n = some (ns.map D.int)) (hi : i = (j : Int)) (hj : j < ns.length) : uv (.ref n) (.int i) h = .ok (.int (gI ns j)) h := by
  have := gg (h := h) (ns := ns) hi hj
  delta uv; dsimp only; rw [nS e]; exact this
noncomputable def hpC (H : Hh) (C : CT) (F : List Int) : Hh := H ++ [.dit (encC C), .lst (F.map D.int)]
theorem zi {H : Hh} {C : CT} {F : List Int} (w : Wf H) : Wf (hpC H C F) := by
  unfold hpC
  rw [show H ++ [O.dit (encC C), .lst (F.map D.int)] = (H ++ [.dit (encC C)]) ++ [.lst (F.map D.int)] by simp]
  refine (w.app ?_).app (by show bT _ _ = true; exact hX fun b => rfl)
  show bT _ ((encC C).map (·.2)) = true
  unfold encC
  rw [List.map_map]
  exact hX fun p => rfl
noncomputable def RWB : MS := (aG (vG 11 12 (aj bW (ae (af 8) aq))) (aG (cQ (aO asB (ao dNe (aj cD (ae (af 11) (ae (af 12) aq))) (af 8))) (bw (cC (.bl false))) bI) (aG (e_ lC (af 9) (af 11) (ao (bb aD) (jM (af 9) (af 11) (cC (.int 0))) (cC (.int 1)))) (l5 (af 10) (aj a8 (ae (af 11) aq)) (cC (.int 1))))))
theorem wW {n : Nat} {o : List Int} (h : o.length = n) (h1 : 1 <= n) : (aY o).length < n := by
  have := List.length_filter_le (fun i => decide (gI o (i + 1) < gI o i)) (List.range (o.length - 1))
  rw [List.length_range] at this
  simp only [aY, List.length_map]
  unfold oN; omega
theorem sS {n : Nat} {o : List Int} {h : Hh} (od : Ord n o) (h1 : 1 <= n) (hn : n <= 20) (w : Wf h) : a8 [.tup (o.map D.int)] h = .ok (.int (aY o).length) h := by
  have := rB (h := h) od h1 hn w
  simp [a8, bA, this]
theorem neT {h : Hh} {xs : List Int} : dNe (.tup (xs.map D.int)) (.tup (xs.map D.int)) h = .ok (.bl false) h := by
  have : eqD eqN h (.tup (xs.map D.int)) (.tup (xs.map D.int)) = some (decide (xs = xs)) := jH 10 h xs xs
  simp only [dNe, this]; simp
theorem AG {n x : Nat} {xs : List Int} {C : CT} {F : List Int} {H : Hh} {d0 d1 d2 d3 d4 d5 d6 d7 y11 y12 : Option D} (h1 : 1 <= n) (hn : n <= 4) (hx : x <= mxX n) (hm : xs ∈ bQ x n) (hF : F.length = n) (hC : C.length <= 10000) (w : Wf H) : ∃ z11 z12, RWB [d0, d1, d2, d3, d4, d5, d6, d7, some (tpI xs), some (.ref H.length), some (.ref (H.length + 1)), y11, y12] (hpC H C F) = .ok (.nx [d0, d1, d2, d3, d4, d5, d6, d7, some (tpI xs), some (.ref H.length), some (.ref (H.length + 1)), z11, z12]) (hpC H (gn (C, F) xs).1 (gn (C, F) xs).2) := by
  obtain ⟨od, up⟩ := C4 h1 hn hx hm
  obtain ⟨xl, xr⟩ := iL n xs hm
  have x7 : x <= 7 := by
    have : mxX n <= 7 := by unfold mxX; split <;> (try split) <;> omega
    omega
  have rw' : Row xs := ⟨by omega, by omega, fun v hv => by have := xr v hv; omega⟩
  have wf := zi (C := C) (F := F) w
  have so := uY (h := hpC H C F) rw' od up
  have rr := uw (h := hpC H C F) rw' od up wf
  rw [xl] at od
  have fm := fun C' => sS (h := hpC H C' F) od h1 (by omega) (zi (C := C') (F := F) w)
  have fl := wW od.len h1
  have ne := neT (h := hpC H C F) (xs := xs)
  refine ⟨some (tpI (bS xs)), some (.tup ((bS xs).map (fun p => gI xs p.toNat) |>.map D.int)), ?_⟩
  unfold gn
  dsimp only
  generalize hf : (aY (bS xs)).length = f at *
  have gt : jM (af 9) (af 11) (cC (.int 0)) [d0, d1, d2, d3, d4, d5, d6, d7, some (tpI xs), some (.ref H.length), some (.ref (H.length + 1)), some (tpI (bS xs)), some (.tup ((bS xs).map (fun p => gI xs p.toNat) |>.map D.int))] (hpC H C F) = .ok (.int ((h7 C (bS xs)).getD 0)) (hpC H C F) := by
    have d1 : cI (hpC H C F) H.length = some (encC C) := kH
    unfold jM
    show (match cI (hpC H C F) H.length with | some _ => _ | none => R.bad) = _
    rw [d1]
    show oJ (.ref H.length) (.tup ((bS xs).map D.int)) (.int 0) (hpC H C F) = _
    unfold oJ
    rw [mq]
    dsimp only
    rw [d1]
    dsimp only
    rw [lq]
    cases h7 C (bS xs) <;> rfl
  have pu : ∀ v, lC (.ref H.length) (tpI (bS xs)) (.int v) (hpC H C F) = .ok () (hpC H (km C (bS xs) v) F) := fun v => by
    have d1 : cI (hpC H C F) H.length = some (encC C) := kH
    unfold lC tpI
    rw [mq]
    dsimp only
    rw [d1]
    dsimp only
    rw [if_pos (by unfold encC; rw [List.length_map]; omega), wj]
    unfold hpC
    rw [kG]
  have ag : ∀ C', uv (.ref (H.length + 1)) (.int (f : Int)) (hpC H C' F) = .ok (.int (gI F f)) (hpC H C' F) := fun C' => Aq (by unfold hpC; exact k9) rfl (by omega)
  have st : ∀ C', dF (.ref (H.length + 1)) (.int (f : Int)) (.int (gI F f + 1)) (hpC H C' F) = .ok () (hpC H C' (F.set f (gI F f + 1))) := fun C' => by
    rw [jb (show ax (hpC H C' F) (H.length + 1) = some (F.map D.int) from by unfold hpC; exact k9) (show ixN (F.map D.int).length (f : Int) = some f from by rw [List.length_map]; exact s_ rfl (by omega))]
    unfold hpC
    rw [xk, List.map_set]
  unfold tpI at *
  generalize ((bS xs).map (fun p => gI xs p.toNat) |>.map D.int) = W2 at *
  generalize (bS xs).map D.int = W1 at *
  generalize xs.map D.int = W0 at *
  have fm' := fm (km C (bS xs) ((h7 C (bS xs)).getD 0 + 1))
  have ag' := ag (km C (bS xs) ((h7 C (bS xs)).getD 0 + 1))
  have st' := st (km C (bS xs) ((h7 C (bS xs)).getD 0 + 1))
  have pu' := pu ((h7 C (bS xs)).getD 0 + 1)
  generalize hpC H (km C (bS xs) ((h7 C (bS xs)).getD 0 + 1)) (F.set f (gI F f + 1)) = H2 at *
  generalize hpC H (km C (bS xs) ((h7 C (bS xs)).getD 0 + 1)) F = H1 at *
  generalize hpC H C F = H0 at *
  simp [RWB, so, rr, ne, gt, pu', fm', ag', st']
theorem xa (C : CT) (k : List Int) (v : Int) : (km C k v).length <= C.length + 1 := by
  unfold km; split <;> simp
noncomputable def b9 (x n : Nat) : CT × List Int := (bQ x n).foldl gn ([], List.replicate n 0)
theorem u4 {n x k : Nat} {H : Hh} {d0 d1 d2 d3 d4 d5 d6 d7 y8 y11 y12 : Option D} (h1 : 1 <= n) (hn : n <= 4) (hx : x <= mxX n) (hk : k < H.length) (ek : ax H k = some ((bQ x n).map tpI)) (w : Wf H) : ∃ z8 z11 z12, Au (gN 8) RWB [d0, d1, d2, d3, d4, d5, d6, d7, y8, some (.ref H.length), some (.ref (H.length + 1)), y11, y12] (.live k) (hpC H [] (List.replicate n 0)) = .ok (.nx [d0, d1, d2, d3, d4, d5, d6, d7, z8, some (.ref H.length), some (.ref (H.length + 1)), z11, z12]) (hpC H (b9 x n).1 (b9 x n).2) /\ (b9 x n).2.length = n := by
  have rd : ∀ C F, ax (hpC H C F) k = some ((bQ x n).map tpI) := fun C F => pG hk ek
  have ln : (bQ x n).length <= 9000 := by
    rw [i4]
    have : ∀ n, n < 5 -> ∀ x, x < 8 -> x <= mxX n -> x ^ n <= 9000 := by decide
    have x7 : x < 8 := by
      have : mxX n <= 7 := by unfold mxX; split <;> (try split) <;> omega
      omega
    exact this n (by omega) x x7 hx
  obtain ⟨s, q, e⟩ := tw (σ := (CT × List Int) × Option D × Option D × Option D) (rd := (Src.live k).rdr) (tg := gN 8) (body := RWB) (fun (i : Nat) => tpI ((bQ x n).getD i [])) (bQ x n).length (fun s => [d0, d1, d2, d3, d4, d5, d6, d7, s.2.1, some (.ref H.length), some (.ref (H.length + 1)), s.2.2.1, s.2.2.2]) (fun s => hpC H s.1.1 s.1.2) (fun i s => s.1 = ((bQ x n).take i).foldl gn ([], List.replicate n 0) /\ s.1.2.length = n /\ s.1.1.length <= i) (fun s i hi => by simp [Src.rdr, rd, List.getElem?_eq_getElem hi]) (fun s => by simp [Src.rdr, rd]) (fun i s hi hs => by
    obtain ⟨⟨C, F⟩, y8, y11, y12⟩ := s
    obtain ⟨e1, e2, e3⟩ := hs
    dsimp only at e1 e2 e3 ⊢
    have gm : (bQ x n).getD i [] = (bQ x n)[i] := by rw [List.getD_eq_getElem?_getD, List.getElem?_eq_getElem hi]; rfl
    rw [gm]
    obtain ⟨z11, z12, q⟩ := AG (n := n) (x := x) (xs := (bQ x n)[i]) (C := C) (F := F) (H := H) (d0 := d0) (d1 := d1) (d2 := d2) (d3 := d3) (d4 := d4) (d5 := d5) (d6 := d6) (d7 := d7) (y11 := y11) (y12 := y12) h1 hn hx (List.getElem_mem hi) e2 (by omega) w
    refine ⟨(gn (C, F) (bQ x n)[i], some (tpI (bQ x n)[i]), z11, z12), ⟨?_, ?_, ?_⟩, ?_⟩
    · dsimp only
      rw [List.take_succ_eq_append_getElem hi, List.foldl_append, <- e1]; rfl
    · show (gn (C, F) _).2.length = n
      unfold gn; simp [e2]
    · show (gn (C, F) _).1.length <= i + 1
      have := xa C (bS (bQ x n)[i]) ((h7 C (bS (bQ x n)[i])).getD 0 + 1)
      unfold gn; dsimp only; omega
    · simp only [rQ, bN, List.set]
      exact q) (bQ x n).length 0 (([], List.replicate n 0), y8, y11, y12) (by omega) ⟨by simp, by simp, by simp⟩
  obtain ⟨cf, z8, z11, z12⟩ := s
  dsimp only at q e
  rw [List.take_length] at e
  obtain ⟨e1, e2, _⟩ := e
  subst e1
  refine ⟨z8, z11, z12, ?_, e2⟩
  show gp (Src.live k).rdr (gN 8) RWB ((ax (hpC H [] (List.replicate n 0)) k).getD []).length 0 _ _ = _
  rw [rd, Option.getD_some, List.length_map]
  exact q
noncomputable def KYB : MS := (cQ (aO asB (ao dNe (ao k4 (af 9) (af 11)) (aj fG (ae (ao cS (ao cS (ao (bb aD) (af 4) (af 3)) (cC (.int 1))) (aj a8 (ae (af 11) aq))) (ae (af 3) aq))))) (bw (cC (.bl false))) bI)
structure KOk (x n : Nat) (C : CT) (o : List Int) : Prop where
  od : Ord n o
  vl : h7 C o = some (ch (x + n - 1 - (aY o).length) n : Int)
  le : (aY o).length + 1 <= x + n
theorem Aj {n x : Nat} {o : List Int} {C : CT} {F : List Int} {H : Hh} {d0 d1 d2 d5 d6 d7 d8 d10 d12 : Option D} (h1 : 1 <= n) (hn : n <= 4) (hx : x <= 7) (k : KOk x n C o) (w : Wf H) : KYB [d0, d1, d2, some (.int n), some (.int x), d5, d6, d7, d8, some (.ref H.length), d10, some (tpI o), d12] (hpC H C F) = .ok (.nx [d0, d1, d2, some (.int n), some (.int x), d5, d6, d7, d8, some (.ref H.length), d10, some (tpI o), d12]) (hpC H C F) := by
  have fm := sS (h := hpC H C F) k.od h1 (by omega) (zi (C := C) (F := F) w)
  have fl := k.le
  have gt : k4 (.ref H.length) (.tup (o.map D.int)) (hpC H C F) = .ok (.int (ch (x + n - 1 - (aY o).length) n : Int)) (hpC H C F) := by
    have d1 : cI (hpC H C F) H.length = some (encC C) := kH
    unfold k4
    rw [mq]
    dsimp only
    rw [d1]
    dsimp only
    rw [lq, k.vl]
    rfl
  have pk := ym (x := x + n - 1 - (aY o).length) (n := n) (h := hpC H C F) (by omega) (by omega)
  have e1 : ((x + n - 1 - (aY o).length : Nat) : Int) = (x : Int) + n - 1 - (aY o).length := by omega
  rw [e1] at pk
  unfold tpI
  generalize o.map D.int = W at *
  generalize hpC H C F = HH at *
  generalize (ch (x + n - 1 - (aY o).length) n : Int) = V at *
  simp [KYB, gt, fm, pk]
theorem qN {n x : Nat} {C : CT} {F : List Int} {H : Hh} {d0 d1 d2 d5 d6 d7 d8 d10 d12 : Option D} (h1 : 1 <= n) (hn : n <= 4) (hx : x <= 7) (w : Wf H) : ∀ (M : CT) (y11 : Option D), (∀ p ∈ M, KOk x n C p.1) -> ∃ z11, cT (gN 11) KYB (M.map fun p => tpI p.1) [d0, d1, d2, some (.int n), some (.int x), d5, d6, d7, d8, some (.ref H.length), d10, y11, d12] (hpC H C F) = .ok (.nx [d0, d1, d2, some (.int n), some (.int x), d5, d6, d7, d8, some (.ref H.length), d10, z11, d12]) (hpC H C F)
  | [], y11, _ => ⟨y11, rfl⟩
  | p :: M, y11, k => by
    obtain ⟨z11, q⟩ := qN (C := C) (F := F) (d0 := d0) (d1 := d1) (d2 := d2) (d5 := d5) (d6 := d6) (d7 := d7) (d8 := d8) (d10 := d10) (d12 := d12) h1 hn hx w M (some (tpI p.1)) (fun r hr => k r (List.mem_cons_of_mem _ hr))
    refine ⟨z11, ?_⟩
    rw [List.map_cons, mz]
    simp only [rQ, bN, List.set, Aj h1 hn hx (k p List.mem_cons_self) w, vR, q]
theorem vJ {C : CT} {F : List Int} {H : Hh} : g6 aD [.ref H.length] (hpC H C F) = .ok (.frl (C.map fun p => tpI p.1)) (hpC H C F) := by
  have d1 : cI (hpC H C F) H.length = some (encC C) := kH
  unfold g6
  dsimp only
  rw [d1]
  dsimp only
  have : ((encC C).map fun kv => tupK kv.1) = C.map fun p => tpI p.1 := by
    unfold encC
    rw [List.map_map]
    exact List.map_congr_left fun p _ => wA p.1
  rw [this]; rfl
theorem AW {n x : Nat} (h1 : 1 <= n) (hn : n <= 4) (hx : x <= mxX n) : (∀ p ∈ (b9 x n).1, KOk x n (b9 x n).1 p.1) /\ (b9 x n).2 = (jQ x (n - 1)).reverse /\ (x = 0 \/ (gz x (n - 1)).sum - (gz (x - 1) (n - 1)).sum = ((x ^ n : Nat) : Int)) := by
  have c := Cw h1 hn hx
  unfold ckX at c
  rw [p4] at c
  rw [Bool.and_eq_true, Bool.and_eq_true, Bool.or_eq_true] at c
  obtain ⟨⟨c1, c2⟩, c3⟩ := c
  refine ⟨fun p hp => ?_, eq_of_beq c2, c3.imp (fun z => by simpa using z) of_decide_eq_true⟩
  have c1 := List.all_eq_true.mp c1 p hp
  rw [Bool.and_eq_true, Bool.and_eq_true, Bool.and_eq_true, Bool.and_eq_true] at c1
  obtain ⟨⟨⟨⟨a1, a2⟩, a3⟩, a4⟩, a5⟩ := c1
  have a3 := List.all_eq_true.mp a3
  exact ⟨⟨of_decide_eq_true a1, of_decide_eq_true a2, fun z hz => (of_decide_eq_true (a3 z hz)).1, fun z hz => (of_decide_eq_true (a3 z hz)).2⟩, of_decide_eq_true a4, of_decide_eq_true a5⟩
noncomputable def B0 : MS := (dI (lg fJ (af 7) (ae (dk aD (jv gx (ae (af 4) aq)) [8] tt1 (ao (bb aD) (af 1) (aj kz (ae (af 0) aq)))) aq)))
noncomputable def B1 : MS := (aG (bL 7 (aj (eO lJ) aq)) (aG (cR (cF (af 5)) (gN 8) B0) (bL 5 (af 7))))
noncomputable def B2 : MS := (aG (vG 11 12 (aj bW (ae (af 8) aq))) (aG (cQ (aO asB (ao dNe (aj cD (ae (af 11) (ae (af 12) aq))) (af 8))) (bw (cC (.bl false))) bI) (aG (e_ lC (af 9) (af 11) (ao (bb aD) (jM (af 9) (af 11) (cC (.int 0))) (cC (.int 1)))) (l5 (af 10) (aj a8 (ae (af 11) aq)) (cC (.int 1))))))
noncomputable def B3 : MS := (cQ (aO asB (ao dNe (ao k4 (af 9) (af 11)) (aj fG (ae (ao cS (ao cS (ao (bb aD) (af 4) (af 3)) (cC (.int 1))) (aj a8 (ae (af 11) aq))) (ae (af 3) aq))))) (bw (cC (.bl false))) bI)
noncomputable def B4 : MS := (aG (bL 2 (aj bE (ae (af 1) aq))) (aG (bL 3 (ao (bb aD) (cC (.int 1)) (aj aS (ae (af 2) (ae (cC (.int 4)) aq))))) (aG (bL 4 (aj aS (ae (af 2) (ae (ao dIx (aj (eO aD) (ae (cC (.int 8)) (ae (cC (.int 8)) (ae (cC (.int 7)) (ae (cC (.int 6)) aq))))) (ao cS (af 3) (cC (.int 1)))) aq)))) (aG (bL 5 (aj (eO aD) (ae (aj kz aq) aq))) (aG (cR (jv gx (ae (af 3) aq)) (gN 6) B1) (aG (sf 9 10 (ae nL (ae (ao (dM lJ) (aj (eO aD) (ae (cC (.int 0)) aq)) (af 3)) aq))) (aG (cR (cF (af 5)) (gN 8) B2) (aG (cR (cF (aj (g6 aD) (ae (af 9) aq))) (gN 11) B3) (aG (cQ (oM (aO asB (ao dNe (af 10) (cUn (nv aD) (aj bG (ae (af 4) (ae (af 3) aq)))))) (aO asB (ao dNe (aj bZ (ae (af 5) aq)) (aj bO (ae (af 4) (ae (af 3) aq)))))) (bw (cC (.bl false))) bI) (cQ (ny (aO asB (ao dGt (af 4) (cC (.int 0)))) (aO asB (ao dNe (ao cS (aj aZ (ae (af 4) (ae (af 3) aq))) (aj aZ (ae (ao cS (af 4) (cC (.int 1))) (ae (af 3) aq)))) (aj bZ (ae (af 5) aq))))) (bw (cC (.bl false))) bI))))))))))
theorem vH : lB = fun ds h => ((cm 13 (aG (cR (cF (ao (bb aD) (aj (eO aD) (ae (aj bj (ae (af 0) (ae (cC (.int 0)) aq))) aq)) (pj aD (af 0) (nD (cC (.int 1))) (nD (cC (.int 4)))))) (gN 1) B4) (bw (cC (.bl true))))) ds h).bind (il h) := rfl
noncomputable def wD : Prop := ∀ (ns : List Int) (c : Int) (y2 y3 y4 y5 y6 y7 y8 y9 y10 y11 y12 : Option D) (h : Hh), Wf h -> Ok (B4 [some (.scr (ns.map D.int)), some (.int c), y2, y3, y4, y5, y6, y7, y8, y9, y10, y11, y12] h) fun fl h2 => ∃ z2 z3 z4 z5 z6 z7 z8 z9 z10 z11 z12, fl = .nx [some (.scr (ns.map D.int)), some (.int c), z2, z3, z4, z5, z6, z7, z8, z9, z10, z11, z12] /\ Wf h2
theorem Bf (step : wD) (ns : List Int) (hl : ns.length <= 63) : ∃ h, lB [.scr (ns.map D.int)] [] = .ok (.bl true) h := by
  have key : Ok (cT (gN 1) B4 (((ns.headD 0) :: qQ ns (some 1) (some 4)).map D.int) [some (.scr (ns.map D.int)), none, none, none, none, none, none, none, none, none, none, none, none] []) fun fl h2 => (∃ e, fl = .nx e) /\ Wf h2 := by
    refine oZ D.int (fun e h => (∃ y1 y2 y3 y4 y5 y6 y7 y8 y9 y10 y11 y12, e = [some (.scr (ns.map D.int)), y1, y2, y3, y4, y5, y6, y7, y8, y9, y10, y11, y12]) /\ Wf h) _ _ _ ⟨⟨_, _, _, _, _, _, _, _, _, _, _, _, rfl⟩, Wf.nil⟩ (fun x e h _ ⟨⟨y1, y2, y3, y4, y5, y6, y7, y8, y9, y10, y11, y12, e1⟩, w⟩ => ?_) (fun e h ⟨_, w⟩ => ⟨⟨_, rfl⟩, w⟩)
    subst e1
    simp only [rQ, bN, List.set]
    refine (step ns x y2 y3 y4 y5 y6 y7 y8 y9 y10 y11 y12 h w).mono fun fl h2 ⟨z2, z3, z4, z5, z6, z7, z8, z9, z10, z11, z12, e2, w2⟩ => ?_
    subst e2
    exact ⟨⟨_, _, _, _, _, _, _, _, _, _, _, _, rfl⟩, w2⟩
  obtain ⟨fl, h2, e, ⟨e', rfl⟩, w⟩ := key
  have cl := zh ns (some 1) (some 4)
  have c1 : 1 + (qQ ns (some 1) (some 4)).length <= 1000000 := by omega
  have ex : il [] (.bl true) h2 = .ok (.bl true) [] := by
    have := iM (h := []) (t := h2) (d := .bl true) Wf.nil rfl
    simpa using this
  refine ⟨[], ?_⟩
  have e2 : cT (gN 1) B4 (D.int (ns.headD 0) :: (qQ ns (some 1) (some 4)).map D.int) [some (.scr (ns.map D.int)), none, none, none, none, none, none, none, none, none, none, none, none] [] = .ok (.nx e') h2 := e
  rw [vH]
  simp [bA, tL, c1, e2, ex, -List.headD_eq_head?_getD]
noncomputable def S2 : MS := (aG (sf 9 10 (ae nL (ae (ao (dM lJ) (aj (eO aD) (ae (cC (.int 0)) aq)) (af 3)) aq))) (aG (cR (cF (af 5)) (gN 8) RWB) (aG (cR (cF (aj (g6 aD) (ae (af 9) aq))) (gN 11) KYB) (aG (cQ (oM (aO asB (ao dNe (af 10) (cUn (nv aD) (aj bG (ae (af 4) (ae (af 3) aq)))))) (aO asB (ao dNe (aj bZ (ae (af 5) aq)) (aj bO (ae (af 4) (ae (af 3) aq)))))) (bw (cC (.bl false))) bI) (cQ (ny (aO asB (ao dGt (af 4) (cC (.int 0)))) (aO asB (ao dNe (ao cS (aj aZ (ae (af 4) (ae (af 3) aq))) (aj aZ (ae (ao cS (af 4) (cC (.int 1))) (ae (af 3) aq)))) (aj bZ (ae (af 5) aq))))) (bw (cC (.bl false))) bI)))))
noncomputable def S0 : MS := (aG (bL 2 (aj bE (ae (af 1) aq))) (aG (bL 3 (ao (bb aD) (cC (.int 1)) (aj aS (ae (af 2) (ae (cC (.int 4)) aq))))) (aG (bL 4 (aj aS (ae (af 2) (ae (ao dIx (aj (eO aD) (ae (cC (.int 8)) (ae (cC (.int 8)) (ae (cC (.int 7)) (ae (cC (.int 6)) aq))))) (ao cS (af 3) (cC (.int 1)))) aq)))) (aG (bL 5 (aj (eO aD) (ae (aj kz aq) aq))) (aG (cR (jv gx (ae (af 3) aq)) (gN 6) TNB) S2)))))
theorem BO : B4 = S0 := rfl
theorem Dy {n : Nat} {h : Hh} {xs : List Int} (e : ax h n = some (xs.map D.int)) : dNe (.ref n) (.frl (xs.map D.int)) h = .ok (.bl false) h := by
  have : eqD eqN h (.ref n) (.frl (xs.map D.int)) = some true := by
    have v1 : vw (.ref n) h = .ls (xs.map D.int) := by
      show (match ax h n with | some ds => Vw.ls ds | none => Vw.no) = _
      rw [e]
    have v2 : vw (.frl (xs.map D.int)) h = .ls (xs.map D.int) := rfl
    show (match vw (.ref n) h, vw (.frl (xs.map D.int)) h with | .fl, .fl => _ | .tp xs, .tp ys => _ | .ls xs, .ls ys => _ | .fl, .tp _ => _ | .fl, .ls _ => _ | .tp _, .fl => _ | .tp _, .ls _ => _ | .ls _, .fl => _ | .ls _, .tp _ => _ | _, _ => _) = _
    rw [v1, v2]
    show (if (xs.map D.int).length = (xs.map D.int).length then eqL (eqD (10 + 1) h) (xs.map D.int) (xs.map D.int) else some false) = _
    rw [if_pos rfl, jH]; simp
  simp only [dNe, this]; rfl
theorem Cb {n x k : Nat} {H : Hh} {d0 d1 d2 d6 d7 y8 y9 y10 y11 y12 : Option D} (h1 : 1 <= n) (hn : n <= 4) (hx : x <= mxX n) (hk : k < H.length) (ek : ax H k = some ((bQ x n).map tpI)) (w : Wf H) : ∃ z8 z11 z12, S2 [d0, d1, d2, some (.int n), some (.int x), some (.ref k), d6, d7, y8, y9, y10, y11, y12] H = .ok (.nx [d0, d1, d2, some (.int n), some (.int x), some (.ref k), d6, d7, z8, some (.ref H.length), some (.ref (H.length + 1)), z11, z12]) (hpC H (b9 x n).1 (b9 x n).2) := by
  have x7 : x <= 7 := by
    have : mxX n <= 7 := by unfold mxX; split <;> (try split) <;> omega
    omega
  obtain ⟨z8, z11, z12, lp, fl⟩ := u4 (d0 := d0) (d1 := d1) (d2 := d2) (d3 := some (.int n)) (d4 := some (.int x)) (d5 := some (.ref k)) (d6 := d6) (d7 := d7) (y8 := y8) (y11 := y11) (y12 := y12) h1 hn hx hk ek w
  obtain ⟨f1, f2, f3⟩ := AW h1 hn hx
  obtain ⟨u11, kl⟩ := qN (C := (b9 x n).1) (F := (b9 x n).2) (H := H) (d0 := d0) (d1 := d1) (d2 := d2) (d5 := some (.ref k)) (d6 := d6) (d7 := d7) (d8 := z8) (d10 := some (.ref (H.length + 1))) (d12 := z12) h1 hn x7 w (b9 x n).1 z11 f1
  refine ⟨z8, u11, z12, ?_⟩
  obtain ⟨m, rfl⟩ : ∃ m, n = m + 1 := ⟨n - 1, by omega⟩
  have rd : ∀ C F, ax (hpC H C F) k = some ((bQ x (m + 1)).map tpI) := fun C F => pG hk ek
  have p1 : sf 9 10 (ae nL (ae (ao (dM lJ) (aj (eO aD) (ae (cC (.int 0)) aq)) (af 3)) aq)) [d0, d1, d2, some (.int ((m + 1 : Nat) : Int)), some (.int x), some (.ref k), d6, d7, y8, y9, y10, y11, y12] H = .ok (.nx [d0, d1, d2, some (.int ((m + 1 : Nat) : Int)), some (.int x), some (.ref k), d6, d7, y8, some (.ref H.length), some (.ref (H.length + 1)), y11, y12]) (hpC H [] (List.replicate (m + 1) 0)) := by
    have t1 : ∀ env : En, nL env H = .ok (.ref H.length) (H ++ [.dit []]) := fun _ => rfl
    have z1 : ((m + 1 : Nat) : Int).natAbs <= 1000000 := by omega
    have z2 : ((m + 1 : Nat) : Int).toNat = m + 1 := by omega
    have z3 : m + 1 <= 1000000 := by omega
    have z4 : 1 <= ((m + 1 : Nat) : Int) := by omega
    have rp : (List.replicate (m + 1) [D.int 0]).flatten = List.replicate (m + 1) (D.int 0) := by
      have key : ∀ j : Nat, (List.replicate j [D.int 0]).flatten = List.replicate j (D.int 0) := fun j => by
        induction j with
        | zero => rfl
        | succ j ih => rw [List.replicate_succ, List.flatten_cons, ih, List.replicate_succ]; rfl
      exact key _
    have eh : hpC H [] (List.replicate (m + 1) 0) = H ++ [.dit [], .lst (List.replicate (m + 1) (D.int 0))] := by unfold hpC encC; rw [List.map_replicate]; rfl
    rw [eh]
    generalize ((m + 1 : Nat) : Int) = N at *
    generalize m + 1 = M at *
    simp [t1, z1, z2, z3, z4, rp]
  have sq : pX (.ref k) (hpC H [] (List.replicate (m + 1) 0)) = .ok (.live k) (hpC H [] (List.replicate (m + 1) 0)) := zP (rd _ _)
  have kk := vJ (C := (b9 x (m + 1)).1) (F := (b9 x (m + 1)).2) (H := H)
  have pp := wK (x := x) (n := m) (h := hpC H (b9 x (m + 1)).1 (b9 x (m + 1)).2) (by omega) (by omega)
  have lf : ax (hpC H (b9 x (m + 1)).1 (b9 x (m + 1)).2) (H.length + 1) = some ((b9 x (m + 1)).2.map D.int) := by unfold hpC; exact k9
  have nr := Dy lf
  have e2 : (b9 x (m + 1)).2.map D.int = ((jQ x (m + 1 - 1)).map D.int).reverse := by rw [f2, List.map_reverse]
  rw [e2] at nr
  have lr := AD (rd (b9 x (m + 1)).1 (b9 x (m + 1)).2)
  rw [List.length_map, i4] at lr
  have pw := wt (x := x) (n := m + 1) (h := hpC H (b9 x (m + 1)).1 (b9 x (m + 1)).2) (by omega) (by omega)
  have ps := vA (x := x) (n := m) (h := hpC H (b9 x (m + 1)).1 (b9 x (m + 1)).2) (by omega) (by omega)
  have nm : ((m + 1 : Nat) : Int) = (m : Int) + 1 := by omega
  have px : ((x ^ (m + 1) : Nat) : Int) = (x : Int) ^ (m + 1) := Int.natCast_pow ..
  rw [px] at lr f3
  have ce : (List.map (fun p => tpI p.1) (b9 x (m + 1)).1).length = (List.map (fun p => tpI p.1) (b9 x (m + 1)).1).length := rfl
  rw [nm] at p1 lp kl pw ⊢
  rw [show m + 1 - 1 = m by omega] at f3 nr
  generalize ((b9 x (m + 1)).1.map fun p => tpI p.1) = KS at *
  generalize (jQ x m).map D.int = PI at *
  generalize (x : Int) ^ (m + 1) = XP at *
  generalize hpC H (b9 x (m + 1)).1 (b9 x (m + 1)).2 = HE at *
  generalize hpC H [] (List.replicate (m + 1) 0) = HB at *
  by_cases c : x = 0
  · subst c
    simp only [Int.natCast_zero] at *
    simp [-zy, S2, p1, sq, lp, kk, kl, pp, nr, lr, pw]
  · have c' : 0 < (x : Int) := by omega
    have ps1 := vA (x := x - 1) (n := m) (h := HE) (by omega) (by omega)
    rw [show ((x - 1 : Nat) : Int) = (x : Int) - 1 by omega] at ps1
    have f4 := f3.resolve_left c
    simp [-zy, S2, p1, sq, lp, kk, kl, pp, nr, lr, pw, c', ps, ps1, f4]
theorem zd : wD := by
  intro ns c y2 y3 y4 y5 y6 y7 y8 y9 y10 y11 y12 h w
  obtain ⟨a, ea, ha⟩ := zG (sG c) 4 (by decide)
  obtain ⟨n, hn⟩ : ∃ n : Nat, 1 + (a : Int) = n := ⟨1 + a, by omega⟩
  have h1 : 1 <= n := by omega
  have h2 : n <= 4 := by omega
  generalize hP1 : kX (sG c) 4 = P1 at *
  obtain ⟨m, hm, hm8, ix⟩ : ∃ m : Nat, m = mxX n + 1 /\ m <= 8 /\ ∀ H : Hh, ixK [.int 8, .int 8, .int 7, .int 6] ((n : Int) - 1) H = .ok (.int m) H := by
    match n, h1, h2 with
    | 1, _, _ => exact ⟨8, rfl, by omega, fun H => f_ (j := 0) rfl rfl⟩
    | 2, _, _ => exact ⟨8, rfl, by omega, fun H => f_ (j := 1) rfl rfl⟩
    | 3, _, _ => exact ⟨7, rfl, by omega, fun H => f_ (j := 2) rfl rfl⟩
    | 4, _, _ => exact ⟨6, rfl, by omega, fun H => f_ (j := 3) rfl rfl⟩
  obtain ⟨x, ex, hx⟩ := zG P1 m (by omega)
  generalize hP2 : kX P1 m = P2 at *
  have hx : x <= mxX n := by omega
  have wf := Bt w P2
  obtain ⟨T, d5, z6, z7, z8, wT, at5, rf, tl⟩ := ur (n := n) (x := x) (G := h ++ [.lst (iW P2)]) (d0 := some (.scr (ns.map D.int))) (d1 := some (.int c)) (d2 := some (.ref h.length)) (d3 := some (.int n)) (y6 := y6) (y7 := y7) (y8 := y8) (d9 := y9) (d10 := y10) (d11 := y11) (d12 := y12) h2 hx wf
  obtain ⟨k, rfl⟩ := rf h1
  obtain ⟨hk, ek⟩ : k < (h ++ [O.lst (iW P2)] ++ T).length /\ ax (h ++ [O.lst (iW P2)] ++ T) k = some ((bQ x n).map tpI) := by
    cases at5 with
    | ref a b => exact ⟨a, b⟩
  obtain ⟨u8, u11, u12, s2⟩ := Cb (n := n) (x := x) (k := k) (H := h ++ [.lst (iW P2)] ++ T) (d0 := some (.scr (ns.map D.int))) (d1 := some (.int c)) (d2 := some (.ref h.length)) (d6 := z6) (d7 := z7) (y8 := z8) (y9 := y9) (y10 := y10) (y11 := y11) (y12 := y12) h1 h2 hx hk ek wT
  have D4 := fun (p : Pen) => tB (p := p) (m := 4) (h := h) (t := []) (by decide)
  have dm : 0 < (m : Int) /\ (m : Int) <= 10 ^ 20 := by omega
  have Dm := fun (p : Pen) => tB (p := p) (m := (m : Int)) (h := h) (t := []) dm
  have wE := zi (C := (b9 x n).1) (F := (b9 x n).2) wT
  have z1 : n <= 1000000 := by omega
  generalize hpC (h ++ [.lst (iW P2)] ++ T) (b9 x n).1 (b9 x n).2 = HE at *
  generalize (h ++ [O.lst (iW P2)] ++ T).length = NL at *
  generalize h ++ [O.lst (iW P2)] ++ T = HT at *
  refine ⟨_, _, ?_, some (.ref h.length), some (.int n), some (.int x), some (.ref k), z6, z7, u8, some (.ref NL), some (.ref (NL + 1)), u11, u12, rfl, wE⟩
  rw [BO]
  simp [S0, D4, ea, hn, hP1, ix, Dm, ex, hP2, z1, tl, s2]
theorem Aa (ns : List Int) (hl : ns.length <= 63) : ∃ h, lB [.scr (ns.map D.int)] [] = .ok (.bl true) h := Bf zd ns hl
end FC
open PySem PySem.W PyProof.Rows
local macro_rules | `(tactic| o_head $H) => `(tactic| (refine holds_open (q := FC.Q) (loose := []) (Xt := (fun s => xlAt FC.Q [] s && recOk (RowW.records (OpenRow.toRowW (OpenLaw.row PySem.Challenge.rw_fallcounts_k46_whole_powers))) s)) (XP := XL FC.Q []) (Yf := Hook.obs $H) (Ya := Hook.val $H) (YP := Hook.says $H) (N := 3520) (L2.FE.ud (by decide) (by kernel_rfl) (fun _ => by kernel_rfl) FC.Cc FC.CS (fun w os => by kernel_rfl)) (Hook.of $H) (Hook.keeps $H) (fun s e => xl_of s (Bool.and_eq_true_iff.mp e).1) XL.keeps (by rfl) (by rfl) (by rfl) (fun s e => recFacts_of (Bool.and_eq_true_iff.mp e).2) (by rfl) (by first | assumption | decide +kernel) (by decide +kernel) ⟨rfl, rfl, rfl, rfl, rfl, by decide +kernel⟩ ?hw ?hc))
set_option maxRecDepth 100000 in
set_option maxHeartbeats 0 in
theorem PySem.Challenge.cw_fallcounts_k46_whole_powers_holds : PySem.Challenge.rw_fallcounts_k46_whole_powers.Holds := by
  w_on; o_law; k_head; w_witness2
  k_fill
  refine FC.walk (l := PySem.Challenge.rw_fallcounts_k46_whole_powers) rfl rfl (fun w h Y => by first | exact PySem.W.kIn_of Y | exact PySem.W.km_in_of Y) FC.Aa ?F
  case F =>
    intro w mg fa h KX G hmg
    have T : FC.Text (L2.KOf KX) := by
      dsimp only [L2.KOf]
      refine' ⟨?eE, ?fh, ?gQ, ?hG, ?iH, ?g9, ?gc, ?gD, ?gf, ?d_, ?iD, ?iZ, ?iR, ?iI, ?fT, ?dy, ?iX, ?oh, ?eY, ?fU, ?lS, ?eZ, ?gh, ?gS, ?fN, ?xh, ?rM, ?gY, ?vY, ?f9, ?xu, ?qZ, ?vO, ?oo, ?vT, ?lN, ?u6, ?nZ, ?u9, ?dq, ?bX, ?cn, ?cL, ?dv, ?cq⟩
      (case eE => refine' L2.FE.a_ ?a ?l ?c ?k; (case a => k_is); (case l => k_is); (case c => k_is); (case k => k_is))
      (case fh => refine' L2.FE.a_ ?a ?l ?c ?k; (case a => k_is); (case l => k_is); (case c => k_is); (case k => k_is))
      (case gQ => refine' L2.FE.a_ ?a ?l ?c ?k; (case a => k_is); (case l => k_is); (case c => k_is); (case k => k_is))
      (case hG => refine' L2.FE.a_ ?a ?l ?c ?k; (case a => k_is); (case l => k_is); (case c => k_is); (case k => k_is))
      (case iH => refine' L2.FE.a_ ?a ?l ?c ?k; (case a => k_is); (case l => k_is); (case c => k_is); (case k => k_is))
      (case g9 => refine' L2.FE.a_ ?a ?l ?c ?k; (case a => k_is); (case l => k_is); (case c => k_is); (case k => k_is))
      (case gc => refine' L2.FE.a_ ?a ?l ?c ?k; (case a => k_is); (case l => k_is); (case c => k_is); (case k => k_is))
      (case gD => refine' L2.FE.a_ ?a ?l ?c ?k; (case a => k_is); (case l => k_is); (case c => k_is); (case k => k_is))
      (case gf => refine' L2.FE.a_ ?a ?l ?c ?k; (case a => k_is); (case l => k_is); (case c => k_is); (case k => k_is))
      (case d_ => refine' L2.FE.a_ ?a ?l ?c ?k; (case a => k_is); (case l => k_is); (case c => k_is); (case k => k_is))
      (case iD => refine' L2.FE.a_ ?a ?l ?c ?k; (case a => k_is); (case l => k_is); (case c => k_is); (case k => k_is))
      (case iZ => refine' L2.FE.a_ ?a ?l ?c ?k; (case a => k_is); (case l => k_is); (case c => k_is); (case k => k_is))
      (case iR => refine' L2.FE.a_ ?a ?l ?c ?k; (case a => k_is); (case l => k_is); (case c => k_is); (case k => k_is))
      (case iI => refine' L2.FE.a_ ?a ?l ?c ?k; (case a => k_is); (case l => k_is); (case c => k_is); (case k => k_is))
      (case fT => refine' L2.FE.a_ ?a ?l ?c ?k; (case a => k_is); (case l => k_is); (case c => k_is); (case k => k_is))
      (case dy => refine' L2.FE.a_ ?a ?l ?c ?k; (case a => k_is); (case l => k_is); (case c => k_is); (case k => k_is))
      (case iX => refine' L2.FE.a_ ?a ?l ?c ?k; (case a => k_is); (case l => k_is); (case c => k_is); (case k => k_is))
      (case oh => refine' L2.FE.a_ ?a ?l ?c ?k; (case a => k_is); (case l => k_is); (case c => k_is); (case k => k_is))
      (case eY => refine' L2.FE.a_ ?a ?l ?c ?k; (case a => k_is); (case l => k_is); (case c => k_is); (case k => k_is))
      (case fU => refine' L2.FE.a_ ?a ?l ?c ?k; (case a => k_is); (case l => k_is); (case c => k_is); (case k => k_is))
      (case lS => refine' L2.FE.a_ ?a ?l ?c ?k; (case a => k_is); (case l => k_is); (case c => k_is); (case k => k_is))
      (case eZ => refine' L2.FE.a_ ?a ?l ?c ?k; (case a => k_is); (case l => k_is); (case c => k_is); (case k => k_is))
      (case gh => refine' L2.FE.a_ ?a ?l ?c ?k; (case a => k_is); (case l => k_is); (case c => k_is); (case k => k_is))
      (case gS => refine' L2.FE.a_ ?a ?l ?c ?k; (case a => k_is); (case l => k_is); (case c => k_is); (case k => k_is))
      (case fN => refine' L2.FE.a_ ?a ?l ?c ?k; (case a => k_is); (case l => k_is); (case c => k_is); (case k => k_is))
      (case xh => refine' L2.FE.a_ ?a ?l ?c ?k; (case a => k_is); (case l => k_is); (case c => k_is); (case k => k_is))
      (case rM => k_is)
      (case gY => k_is)
      (case vY => k_is)
      (case f9 => k_is)
      (case xu => k_is)
      (case qZ => k_is)
      (case vO => k_is)
      (case oo => k_is)
      (case vT => k_is)
      (case lN => k_is)
      (case u6 => k_is)
      (case nZ => k_is)
      (case u9 => k_is)
      (case dq => exact ⟨_, rfl⟩)
      (case bX => exact ⟨_, rfl⟩)
      (case cn => exact ⟨_, rfl⟩)
      (case cL => exact ⟨_, rfl⟩)
      (case dv => exact ⟨_, rfl⟩)
      (case cq => exact ⟨_, rfl⟩)
    exact FC.all_mk KX G hmg T
